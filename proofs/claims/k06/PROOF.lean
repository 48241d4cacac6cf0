import PyProof.Rows.All
import Wide.All
import OpenK.AllK
import Wide.FinOn
import Lean
import PyProof.EqAt
import PyProof.EqKinds
import PyProof.TupleCall
import KE.KSortKey
import KE.KDflt
import PyProof.Rows.SortRuns
import PyProof.DictCompW
import KE.KLam
import PyProof.Rows.StrRev
import PySem.Challenge.RW_waymusts_k06_holders_hang_together
set_option autoImplicit false
set_option linter.all false
set_option Elab.async false
set_option maxRecDepth 100000
set_option maxHeartbeats 8000000
namespace L2
open PySem PySem.Spec PyProof.Rows
abbrev Key:=Sum Int Str
noncomputable def zKN:Key->Value->Bool
 |.inl k,v=>Value.isInt k v
 |.inr x,v=>Value.isStrOf x v
noncomputable def yDC(w:World):Key->Int
 |.inl k=>hashInt k
 |.inr x=>hashStr w x
theorem zAU:∀{k:Key} {v:Value},zKN k v=true->(∃i t,k=Sum.inl i/\v=Value.int i t)\/(∃x t,k=Sum.inr x/\v=Value.str x t)
 |.inl i,v,h=>by
  obtain⟨t,e⟩:=Value.isInt_shape (k:=i) (v:=v) h
  exact .inl ⟨i,t,rfl,e⟩
 |.inr x,v,h=>by
  obtain⟨t,e⟩:=Value.isStrOf_shape (x:=x) (v:=v) h
  exact .inr ⟨x,t,rfl,e⟩
theorem zN4(i:Int)(t:Tok):zKN (.inl i) (.int i t)=true:=by simp[zKN,Value.isInt]
theorem zN5(x:Str)(t:Tok):zKN (.inr x) (.str x t)=true:=by simp[zKN,Value.isStrOf]
theorem zXV(a b:Int):decide ((Sum.inl a:Key)=Sum.inl b)=(a==b):=by
 by_cases e:a=b
 ·subst e;simp
 ·have h:¬(Sum.inl a:Key)=Sum.inl b:=λq=>e (Sum.inl.inj q)
  rw[decide_eq_false h]
  exact(beq_eq_false_iff_ne.mpr e).symm
theorem zXW(a b:Str):decide ((Sum.inr a:Key)=Sum.inr b)=decide (a=b):=by
 by_cases e:a=b
 ·subst e;simp
 ·have h:¬(Sum.inr a:Key)=Sum.inr b:=λq=>e (Sum.inr.inj q)
  rw[decide_eq_false h,decide_eq_false e]
theorem zXX(a:Int)(b:Str):decide ((Sum.inl a:Key)=Sum.inr b)=false:=decide_eq_false (λq=>nomatch q)
theorem zXY(a:Str)(b:Int):decide ((Sum.inr a:Key)=Sum.inl b)=false:=decide_eq_false (λq=>nomatch q)
noncomputable def zA1(prog:Program)(w:World):PySem.KeyKind prog w Key where
 is:=zKN
 hash:=yDC w
 inj:=λv a b ha hb=>by
  rcases zAU ha with⟨i,t,rfl,rfl⟩|⟨x,t,rfl,rfl⟩
  ·rcases zAU hb with⟨j,u,rfl,e⟩|⟨y,u,rfl,e⟩
   ·injection e with e1 _;rw[e1]
   ·exact nomatch e
  ·rcases zAU hb with⟨j,u,rfl,e⟩|⟨y,u,rfl,e⟩
   ·exact nomatch e
   ·injection e with e1 _;rw[e1]
 byValue:=λk v h=>by
  rcases zAU h with⟨i,t,rfl,rfl⟩|⟨x,t,rfl,rfl⟩<;>rfl
 pyHash:=λhv h=>by
  rcases zAU hv with⟨i,t,rfl,rfl⟩|⟨x,t,rfl,rfl⟩
  ·exact wpAny_pyHash_int h
  ·exact wpAny_pyHash_str h
 eqBool:=λhu hv h=>by
  rcases zAU hu with⟨i,t,rfl,rfl⟩|⟨x,t,rfl,rfl⟩
  ·rcases zAU hv with⟨j,u,rfl,rfl⟩|⟨y,u,rfl,rfl⟩
   ·rw[zXV] at h;exact wpAny_eqBool_int h
   ·rw[zXX] at h;exact SeqAt.EqAt.int_str i t y u _ _ _ _ h
  ·rcases zAU hv with⟨j,u,rfl,rfl⟩|⟨y,u,rfl,rfl⟩
   ·rw[zXY] at h;exact SeqAt.EqAt.str_int x t j u _ _ _ _ h
   ·rw[zXW] at h;exact wpAny_eqBool_str h
 «strs»:=λk x t v h=>by
  rcases zAU h with⟨i,u,rfl,e⟩|⟨y,u,rfl,e⟩
  ·exact nomatch e
  ·injection e with e1 _
   subst e1
   cases v<;>rfl
theorem zGH(prog:Program)(w:World)(k:Key)(v:Value):(zA1 prog w).is k v=zKN k v:=rfl
theorem zKO(prog:Program)(w:World)(i:Int)(t:Tok):(zA1 prog w).is (.inl i) (.int i t)=true:=zN4 i t
theorem zKP(prog:Program)(w:World)(x:Str)(t:Tok):(zA1 prog w).is (.inr x) (.str x t)=true:=zN5 x t
inductive V where
 |non|bl (b:Bool)|int (i:Int)|str (x:Str)|byt (b:Array UInt8)|flt (b:UInt64)|ref (a:Addr)|ty (n:String)
 deriving DecidableEq
def RelV:V->Value->Prop
 |.non,u=>u=Value.none
 |.bl b,u=>u=Value.bool b
 |.int i,u=>∃t,u=Value.int i t
 |.str x,u=>∃t,u=Value.str x t
 |.byt b,u=>∃t,u=Value.bytes b t
 |.flt b,u=>∃t,u=Value.float b t
 |.ref a,u=>u=Value.ref a
 |.ty n,u=>u=Value.type n
abbrev Vals:List V->List Value->Prop:=Paired RelV
theorem Vals.length{xs:List V}{us:List Value}(r:Vals xs us):xs.length=us.length:=Paired.length r
theorem Vals.get:∀{xs:List V} {us:List Value} {i:Nat} {x:V},Vals xs us->xs[i]?=some x->∃u,us[i]?=some u/\RelV x u
 |_,_,_,_,.nil,e=>by simp at e
 |_,_,0,_,.cons r _,e=>by simp at e;subst e;exact⟨_,rfl,r⟩
 |_,_,i+1,x,.cons _ t,e=>by
  obtain⟨u,h1,h2⟩:=Vals.get (i:=i) (x:=x) t (by simpa using e)
  exact⟨u,by simpa using h1,h2⟩
theorem Vals.set{x:V}{u:Value}(r:RelV x u):∀{xs:List V} {us:List Value} (i:Nat),Vals xs us->Vals (xs.set i x) (us.set i u)
 |_,_,_,.nil=>.nil
 |_,_,0,.cons _ t=>.cons r t
 |_,_,i+1,.cons q t=>.cons q (Vals.set r i t)
theorem Vals.append:∀{xs ys:List V} {us ws:List Value},Vals xs us->Vals ys ws->Vals (xs++ys) (us++ws)
 |_,_,_,_,.nil,s=>s
 |_,_,_,_,.cons r t,s=>.cons r (Vals.append t s)
theorem Vals.take:∀{xs:List V} {us:List Value} (n:Nat),Vals xs us->Vals (xs.take n) (us.take n)
 |_,_,0,_=>.nil
 |_,_,_+1,.nil=>.nil
 |_,_,n+1,.cons r t=>.cons r (Vals.take n t)
theorem Vals.drop:∀{xs:List V} {us:List Value} (n:Nat),Vals xs us->Vals (xs.drop n) (us.drop n)
 |_,_,0,r=>r
 |_,_,_+1,.nil=>.nil
 |_,_,n+1,.cons _ t=>Vals.drop n t
def RelO:Option V->Option Value->Prop
 |some v,some u=>RelV v u
 |none,none=>True
 |_,_=>False
def KV{κ:Type}:List (κ×V)->List (κ×Value)->Prop:=Paired λ(p:κ×V) (q:κ×Value)=>p.1=q.1/\RelV p.2 q.2
noncomputable def kV:Key->V
 |.inl i=>.int i
 |.inr x=>.str x
inductive HO where
 |lst (xs:List V)
 |tup (xs:List V)
 |dK (kvs:List (Key×V))|dT (kvs:List (List Key×V))
 |set (S:Int->Bool) (n:Nat)
 |ins (C dx:Addr) (fs:List (Str×V))
 |own (x:Addr)
 |xd (fs:List (Str×V))
 |met (f x:Addr)
 |rng (lo hi:Int)
 |frz (o:Obj) (u:HO)
 |tbl (q:Str) (ps:Array Value)
 |ext (φ:Heap->Prop)
abbrev Hp:=Addr->Option HO
noncomputable def upd(H:Hp)(a:Addr)(o:HO):Hp:=λb=>if b=a then some o else H b
theorem zAD{H:Hp}{a:Addr}{o:HO}:upd H a o a=some o:=by unfold upd;rw[if_pos rfl]
theorem zAE{H:Hp}{a b:Addr}{o:HO}(h:b≠a):upd H a o b=H b:=by unfold upd;rw[if_neg h]
theorem yA3{H:Hp}{a b:Addr}{o u:HO}(h:H a=some o)(h':H b=some u)(d:o≠u):a≠b:=by
 intro e;subst e;rw[h] at h';exact d (Option.some.inj h')
theorem zAS{H:Hp}{a b:Addr}{o:HO}(h:H a=some o)(h':H b=none):a≠b:=by
 intro e;subst e;rw[h] at h';cases h'
def IsTupP(h:Heap)(a:Addr)(items:Array Value):Prop:=∃o,h.get? a=some o/\o.cls=.type "tuple"/\o.dict=none/\∃n,o.data=.seq items n
theorem IsTupP.isTup{h:Heap}{a:Addr}{items:Array Value}(p:IsTupP h a items):IsTup h a items:=let ⟨o,e,c,_,n⟩:=p;⟨o,e,c,n⟩
theorem IsTupP.new(h:Heap)(items:Array Value):IsTupP (h.push { cls:=.type "tuple",data:=.seq items }) h.objs.size items:=⟨_,Heap.get?_push_size _ rfl,rfl,rfl,_,rfl⟩
section
variable(P:Program)(w:World)
def ObjOk(H:Hp)(h:Heap)(a:Addr):HO->Prop
 |.lst xs=>xs.length<=sizeLine/\∃(its:List Value) (n:Nat),Vals xs its/\h.get? a=some { cls:=.type "list",data:=.seq its.toArray n }
 |.tup xs=>xs.length<=sizeLine/\∃its:List Value,Vals xs its/\IsTupP h a its.toArray
 |.dK kvs=>kvs.length<=sizeLine/\(a==sysModules)=false/\∃vs,KV kvs vs/\h.DictOf (zA1 P w) a vs
 |.dT kvs=>kvs.length<=sizeLine/\(a==sysModules)=false/\∃xs:List (List Key×Addr×Value),
   Paired (λ(p:List Key×V) (q:List Key×Addr×Value)=>p.1=q.1/\H q.2.1=some (.tup (p.1.map kV))/\RelV p.2 q.2.2) kvs xs /\
   ∃o es ep,h.get? a=some o/\o.ExactDict/\o.data=.dict es ep/\es.toList=xs.map (entryOfKey (tupleKind (zA1 P w)))/\(xs.map (·.1)).Nodup
 |.set S n=>h.SetOf (intKind P w) a S n
 |.ins C dx fs=>H dx=some (.own a)/\fs.length<=1000/\dx≠a/\h.get? a=some (PySem.W.instObj C dx) /\
   ∃mA,h.Ns1 dx mA/\(∀f,RelO (fs.lookup f) (mA f))/\PySem.Within mA (fs.map (·.1))
 |.own _=>∃o,h.get? a=some o
 |.xd fs=>∃mA,h.Ns1 a mA/\∀f,RelO (fs.lookup f) (mA f)
 |.rng lo hi=>∃t u v,h.get? a=some { cls:=.type "range",data:=.fields #[.int lo t,.int hi u,.int 1 v] }
 |.frz o u=>h.get? a=some o/\ObjOk H h a u
 |.tbl q ps=>h.get? a=some { cls:=.none,data:=.fields ps }/\TriplesOk ps.toList/\∀pos cv,codeAmong pos ps.toList=some cv->∃c' o vs t,cv=.ref c'/\H c'=some (.frz o (.own c'))/\o.data=.fields vs/\vs[1]?=some (.str q t)
 |.met f x=>h.get? a=some (PySem.W.methodObj (.ref f) (.ref x))
 |.ext φ=>φ h/\(∃o,h.get? a=some o)/\∀h1 h2:Heap,φ h1->(∀o,h1.get? a=some o->h2.get? a=some o)->φ h2
def HOk(H:Hp)(h:Heap):Prop:=∀a o,H a=some o->ObjOk P w H h a o
end
section
variable{P:Program}{w:World}{H H':Hp}{h h':Heap}{a:Addr}{o:HO}
theorem ObjOk.lt(x:ObjOk P w H h a o):a<h.objs.size:=by
 cases o with
 |lst xs=>obtain⟨_,_,_,_,e⟩:=x;exact Heap.lt_size e
 |tup xs=>obtain⟨_,_,_,p⟩:=x;exact p.isTup.lt
 |dK kvs=>obtain⟨_,_,_,_,o,_,_,e,_⟩:=x;exact Heap.lt_size e
 |dT kvs=>obtain⟨_,_,_,_,o,_,_,e,_⟩:=x;exact Heap.lt_size e
 |set S n=>obtain⟨o,_,_,_,e,_⟩:=x;exact Heap.lt_size e
 |ins C dx fs=>obtain⟨_,_,_,e,_⟩:=x;exact Heap.lt_size e
 |own y=>obtain⟨_,e⟩:=x;exact Heap.lt_size e
 |xd fs=>obtain⟨_,⟨_,_,_,e,_⟩,_⟩:=x;exact Heap.lt_size e
 |rng lo hi=>obtain⟨_,_,_,e⟩:=x;exact Heap.lt_size e
 |frz ob u=>obtain⟨e,_⟩:=x;exact Heap.lt_size e
 |tbl q ps=>exact Heap.lt_size x.1
 |met f y=>exact Heap.lt_size (show h.get? a=some _ from x)
 |ext φ=>obtain⟨_,⟨_,e⟩,_⟩:=x;exact Heap.lt_size e
theorem Paired.mapP{α β:Type}{F G:α->β->Prop}:∀{l₁:List α} {l₂:List β},Paired F l₁ l₂->(∀a b,F a b->G a b)->Paired G l₁ l₂
 |_,_,.nil,_=>.nil
 |_,_,.cons r t,f=>.cons (f _ _ r) (Paired.mapP t f)
theorem ObjOk.stay(x:ObjOk P w H h a o)(k:∀b u,(b=a\/H b=some (.own a))->h.get? b=some u->h'.get? b=some u)
  (ho:∀b,H b=some (.own a)->H' b=some (.own a)) (ht:∀b xs,H b=some (.tup xs)->H' b=some (.tup xs)) (hf:∀b o x,H b=some (.frz o (.own x))->H' b=some (.frz o (.own x))):ObjOk P w H' h' a o:=by
 induction o with
 |lst xs=>obtain⟨z,its,n,r,e⟩:=x;exact⟨z,its,n,r,k _ _ (.inl rfl) e⟩
 |tup xs=>obtain⟨z,its,r,ob,e,c⟩:=x;exact⟨z,its,r,ob,k _ _ (.inl rfl) e,c⟩
 |dK kvs=>obtain⟨z,y,vs,r,ob,es,ep,e,c⟩:=x;exact⟨z,y,vs,r,ob,es,ep,k _ _ (.inl rfl) e,c⟩
 |dT kvs =>
  obtain⟨z,y,xs,r,ob,es,ep,e,c⟩:=x
  exact⟨z,y,xs,Paired.mapP r λp q z=>⟨z.1,ht _ _ z.2.1,z.2.2⟩,ob,es,ep,k _ _ (.inl rfl) e,c⟩
 |set S n=>obtain⟨ob,es,ep,t,e,c⟩:=x;exact⟨ob,es,ep,t,k _ _ (.inl rfl) e,c⟩
 |ins C dx fs =>
  obtain⟨d,z,ne,e,mA,⟨od,es,ep,e2,c⟩,r⟩:=x
  exact⟨ho _ d,z,ne,k _ _ (.inl rfl) e,mA,⟨od,es,ep,k _ _ (.inr d) e2,c⟩,r⟩
 |own y=>obtain⟨ob,e⟩:=x;exact⟨ob,k _ _ (.inl rfl) e⟩
 |xd fs=>obtain⟨mA,⟨od,es,ep,e,c⟩,r⟩:=x;exact⟨mA,⟨od,es,ep,k _ _ (.inl rfl) e,c⟩,r⟩
 |rng lo hi=>obtain⟨t,u,v,e⟩:=x;exact⟨t,u,v,k _ _ (.inl rfl) e⟩
 |frz ob u ih=>obtain⟨e,q⟩:=x;exact⟨k _ _ (.inl rfl) e,ih q⟩
 |tbl q ps =>
  obtain⟨e,tr,al⟩:=x
  refine⟨k a _ (.inl rfl) e,tr,λpos cv z=>?_⟩
  obtain⟨c',o,vs,t,r1,r2,r3⟩:=al pos cv z
  exact⟨c',o,vs,t,r1,hf _ _ _ r2,r3⟩
 |met f y =>
  have e:h.get? a=some (PySem.W.methodObj (.ref f) (.ref y)):=x
  show h'.get? a=some (PySem.W.methodObj (.ref f) (.ref y))
  exact k a _ (.inl rfl) e
 |ext φ=>obtain⟨p,⟨o,e⟩,st⟩:=x;exact⟨st _ _ p λo q=>k _ _ (.inl rfl) q,⟨o,k _ _ (.inl rfl) e⟩,st⟩
theorem HOk.lt(x:HOk P w H h)(e:H a=some o):a<h.objs.size:=(x a o e).lt
theorem HOk.fresh(x:HOk P w H h)(e:h.objs.size<=a):H a=none:=by
 cases q:H a with
 |none=>rfl
 |some u=>exact absurd (Nat.lt_of_lt_of_le (x.lt q) e) (Nat.lt_irrefl _)
theorem HOk.kept(x:HOk P w H h)(k:∀b u,h.get? b=some u->h'.get? b=some u):HOk P w H h':=λa o e =>
 (x a o e).stay (λb u _ q=>k b u q) (λ_ q=>q) (λ_ _ q=>q) λ_ _ _ q=>q
theorem HOk.laid(x:HOk P w H h)(k:∀b u,h.get? b=some u->h'.get? b=some u)(hp:h.objs.size<=a)(new:ObjOk P w (upd H a o) h' a o):HOk P w (upd H a o) h':=λb u e=>by
 have hn:=x.fresh hp
 by_cases hb:b=a
 ·subst hb;rw[zAD] at e;cases e;exact new
 ·rw[zAE hb] at e
  exact(x b u e).stay (λc v _ q=>k c v q) (λc q=>by rw[zAE (zAS q hn)];exact q) (λc xs q=>by rw[zAE (zAS q hn)];exact q) λc o x q=>by rw[zAE (zAS q hn)];exact q
end
def Rd(H:Hp)(a:Addr)(u:HO):Prop:=H a=some u\/∃o,H a=some (.frz o u)
theorem Rd.ok{P:Program}{w:World}{H:Hp}{h:Heap}{a:Addr}{u:HO}(r:Rd H a u)(x:HOk P w H h):ObjOk P w H h a u:=by
 rcases r with r|⟨o,r⟩
 ·exact x a u r
 ·obtain⟨_,q⟩:=x a _ r
  exact q
def Mut:Option HO->Prop
 |some (.lst _)=>True
 |some (.dK _)=>True
 |some (.dT _)=>True
 |some (.set _ _)=>True
 |some (.ins _ _ _)=>True
 |some (.ext _)=>True
 |_=>False
section
variable{P:Program}{w:World}{H:Hp}{h h':Heap}{x e:Addr}{o':HO}
theorem HOk.write(ok:HOk P w H h)(mu:Mut (H x))(he:e=x\/H e=some (.own x))(k:∀b u,b≠e->h.get? b=some u->h'.get? b=some u)(heo:∃u,h'.get? e=some u)
  (new:ObjOk P w (upd H x o') h' x o'):HOk P w (upd H x o') h':=λb u q=>by
 have nown:∀c y,H c=some (.own y)->c≠x:=λc y r z=>by subst z;rw[r] at mu;exact mu
 have ntup:∀c xs,H c=some (.tup xs)->c≠x:=λc xs r z=>by subst z;rw[r] at mu;exact mu
 have nfrz:∀c o y,H c=some (.frz o (.own y))->c≠x:=λc o y r z=>by subst z;rw[r] at mu;exact mu
 by_cases hb:b=x
 ·subst hb;rw[zAD] at q;cases q;exact new
 ·rw[zAE hb] at q
  by_cases hbe:b=e
  ·have q':H b=some (.own x):=by
    rcases he with z|z
    ·exact absurd (hbe.trans z) hb
    ·rw[hbe];exact z
   rw[q] at q';cases q'
   obtain⟨v,hv⟩:=heo
   exact⟨v,by rw[hbe];exact hv⟩
  ·refine(ok b u q).stay (λc v hc r=>k c v ?_ r) (λc r=>by rw[zAE (nown c b r)];exact r) (λc xs r=>by rw[zAE (ntup c xs r)];exact r) λc o y r=>by rw[zAE (nfrz c o y r)];exact r
   rcases hc with rfl|hc
   ·exact hbe
   ·rintro rfl
    rcases he with z|z
    ·exact nown c b hc z
    ·rw[hc] at z;cases z;exact hb rfl
end
structure Un(fs ex:List Addr)(H H':Hp)(h h':Heap):Prop where
 keep:∀b o,h.get? b=some o->H b=none->b∉fs->b∉ex->h'.get? b=some o
 slot:∀b o,h.get? b=some o->H b=none->b∈fs->b∉ex->∃sl,h'.get? b=some { o with slots:=sl }
 free:∀b o,h.get? b=some o->H b=none->b∉ex->H' b=none
 there:∀b o,h.get? b=some o->b∉ex->∃o',h'.get? b=some o'
 tups:∀b xs,H b=some (.tup xs)->H' b=some (.tup xs)
 frzs:∀b o u,H b=some (.frz o u)->H' b=some (.frz o u)
 tbls:∀b t ps,H b=some (.tbl t ps)->∃more,H' b=some (.tbl t (ps++more))
section
variable{fs fs' ex ex':List Addr}{H H1 H2:Hp}{h h1 h2 h':Heap}{a x e:Addr}{o:HO}
theorem Un.any(u:Un fs ex H H1 h h1){b:Addr}{ob:Obj}(q:h.get? b=some ob)(n:H b=none)(hx:b∉ex):∃sl,h1.get? b=some { ob with slots:=sl }:=by
 by_cases hb:b∈fs
 ·exact u.slot b ob q n hb hx
 ·exact⟨ob.slots,u.keep b ob q n hb hx⟩
theorem Un.kept(k:∀b u,h.get? b=some u->h'.get? b=some u):Un fs ex H H h h' :=
 ⟨λb ob q _ _ _=>k b ob q,λb ob q _ _ _=>⟨ob.slots,k b ob q⟩,λ_ _ _ n _=>n,λb ob q _=>⟨ob,k b ob q⟩,λ_ _ q=>q,λ_ _ _ q=>q,λ_ _ ps q=>⟨#[],by rw[q];simp⟩⟩
theorem Un.refl:Un fs ex H H h h:=Un.kept λ_ _ q=>q
theorem Un.laid(k:∀b u,h.get? b=some u->h'.get? b=some u)(hp:h.objs.size<=a)(hn:H a=none):Un fs ex H (upd H a o) h h' where
 keep:=λb u q _ _ _=>k b u q
 slot:=λb u q _ _ _=>⟨u.slots,k b u q⟩
 free:=λb u q n _=>by rw[zAE (Nat.ne_of_lt (Nat.lt_of_lt_of_le (Heap.lt_size q) hp))];exact n
 there:=λb u q _=>⟨u,k b u q⟩
 tups:=λb xs q=>by rw[zAE (zAS q hn)];exact q
 frzs:=λb u xs q=>by rw[zAE (zAS q hn)];exact q
 tbls:=λb t ps q=>⟨#[],by rw[zAE (zAS q hn),q];simp⟩
theorem Un.write(mu:Mut (H x))(he:e=x\/H e=some (.own x))(k:∀b u,b≠e->h.get? b=some u->h'.get? b=some u)(heo:∃u,h'.get? e=some u):Un fs ex H (upd H x o) h h':=by
 have hx:∀b,H b=none->b≠x:=λb n z=>by subst z;rw[n] at mu;exact mu
 have hb:∀b,H b=none->b≠e:=λb n z=>by
  subst z
  rcases he with r|r
  ·exact hx b n r
  ·rw[n] at r;cases r
 have hm:∀b u,H b=some u->¬Mut (some u)->b≠x:=λb u q nm z=>by subst z;rw[q] at mu;exact nm mu
 refine⟨λb u q n _ _=>k b u (hb b n) q,λb u q n _ _=>⟨u.slots,k b u (hb b n) q⟩,λb u q n _=>by rw[zAE (hx b n)];exact n,λb u q _=>?_,
  λb xs q=>by rw[zAE (hm b _ q λz=>z)];exact q,λb u xs q=>by rw[zAE (hm b _ q λz=>z)];exact q,λb t ps q=>⟨#[],by rw[zAE (hm b _ q λz=>z),q];simp⟩⟩
 by_cases hbe:b=e
 ·subst hbe;exact heo
 ·exact⟨u,k b u hbe q⟩
end
noncomputable def trk(h:Heap)(H:Hp):List Addr:=(List.range h.objs.size).filter λa=>(H a).isSome
noncomputable def zQ1(h:Heap)(H:Hp):Heap:=PySem.W.hideAll h (trk h H)
theorem zN6(h:Heap)(H:Hp):(zQ1 h H).objs.size=h.objs.size:=PySem.W.hideAll_size _ _
theorem zRC{h:Heap}{H:Hp}{b:Addr}{o:Obj}(e:h.get? b=some o)(n:H b=none):(zQ1 h H).get? b=some o :=
 PySem.W.hideAll_get _ e λhm=>by
  have q:(H b).isSome=true:=(List.mem_filter.mp hm).2
  rw[n] at q;simp at q
theorem zUT{h:Heap}{H:Hp}{b:Addr}{o:Obj}(e:(zQ1 h H).get? b=some o):h.get? b=some o/\H b=none:=by
 have e':h.get? b=some o:=PySem.W.of_hideAll (trk h H) e
 refine⟨e',?_⟩
 cases q:H b with
 |none=>rfl
 |some x =>
  have hm:b∈trk h H:=List.mem_filter.mpr ⟨List.mem_range.mpr (Heap.lt_size e'),by simp[q]⟩
  have z:(zQ1 h H).get? b=none:=PySem.W.hideAll_none (trk h H) hm
  rw[z] at e;cases e
noncomputable def zFE(g h:Heap)(L:Addr):List (Addr×Obj):=(List.range h.objs.size).filterMap λa=>if a=L\/(g.get? a).isSome=true then none else(h.get? a).map λo=>(a,o)
theorem zKQ{g h:Heap}{L a:Addr}{o:Obj}(h1:a≠L)(h2:g.get? a=none)(h3:h.get? a=some o):(a,o)∈zFE g h L :=
 List.mem_filterMap.mpr ⟨a,List.mem_range.mpr (Heap.lt_size h3),by simp[h1,h2,h3]⟩
theorem zF5{g h:Heap}{L:Addr}{p:Addr×Obj}(hp:p∈zFE g h L):p.1≠L/\g.get? p.1=none/\h.get? p.1=some p.2:=by
 obtain⟨b,_,e⟩:=List.mem_filterMap.mp hp
 split at e
 ·cases e
 ·rename_i hn
  cases q:h.get? b with
  |none=>rw[q] at e;simp at e
  |some u =>
   rw[q] at e
   simp only[Option.map_some,Option.some.injEq] at e
   subst e
   refine⟨λz=>hn (.inl z),?_,q⟩
   show g.get? b=none
   cases r:g.get? b with
   |none=>rfl
   |some v=>exact(hn (.inr (by simp[r]))).elim
noncomputable def rest(g h:Heap)(L d:Addr):List (Addr×Obj):=(zFE g h L).filter λp=>decide (p.1≠d)
theorem zRD{g h:Heap}{L:Addr}:News g L h (zFE g h L):=λp hp=>let ⟨a,b,c⟩:=zF5 hp;⟨c,a,b⟩
structure Mod(K:PySem.W.Frag)(mg:Str->Option Value)(base:Heap):Prop where
 kin:K.In base
 glob:base.Ns mainGlobals mg
 blt:∃mb,base.Ns builtinsNs mb/\∀x:Str,x≠"__name__"->mb x=bootBuiltins x
 nolimit:base.NoLimit
 bmain:∃bm ob,mg "__builtins__"=some (.ref bm)/\bm≠builtinsNs/\base.get? bm=some ob/\ob.cls=.type "module"/\ob.dict=some builtinsNs/\ob.data=.plain
structure Cx where
 prog:Program
 w:World
 K:PySem.W.Frag
 mg:Str->Option Value
 base:Heap
 A:Around
 N:List Str
 s₀:Shared
 H₀:Hp
 env:Env
 outer:List Env
 stack:List Env
 ex:List Addr
 fn:Str->Bool
 calm:Bool
 pn:List (Addr×Obj)
 xe:Value->Shared->Prop
noncomputable def frs(l:List Env):List Addr:=l.filterMap (·.frame)
noncomputable abbrev Cx.fs(X:Cx):List Addr:=frs X.outer
def Vis(sc:Scope)(x:Str):Prop:=sc.names.lookup x=some .local\/sc.names.lookup x=some .cell\/sc.names.lookup x=some .free
def Loc(sc:Scope)(x:Str):Prop:=sc.names.lookup x=some .local\/sc.names.lookup x=some .cell
def yDD(env:Env)(h:Heap)(m:Str->Option Value)(x:Str)(u:Value):Prop :=
 (env.kindOf x=some .local/\m x=some u)\/((env.kindOf x=some .cell\/env.kindOf x=some .free)/\∃c,env.cells.lookup x=some c/\h.IsCell c (some u))
noncomputable def zBT:List Str:=["holders","_law_table","_law_back","_law_kept_right"]
def TB(K:PySem.W.Frag)(T:Addr)(q:Str):Prop:=∃x c,x∈zBT/\PySem.W.tabIn K x=some (c,T)/\q=x++(".<locals>.<lambda>":Str)
structure Cx.Ok(X:Cx):Prop where
 tab:∀T q,TB X.K T q->∃ps,X.H₀ T=some (.tbl q ps)
 mod:Mod X.K X.mg X.base
 kind:X.env.scope.kind=.function
 glob:X.env.globals=mainGlobals
 blt:X.env.builtins=builtinsNs
 above:X.s₀.heap.objs.size<=X.env.locals
 inj:∀x y c,X.env.cells.lookup x=some c->X.env.cells.lookup y=some c->x=y
 has:∀x,(X.env.kindOf x=some .cell\/X.env.kindOf x=some .free)->∃c,X.env.cells.lookup x=some c
 cab:∀x c,X.fn x=true->X.env.cells.lookup x=some c->X.s₀.heap.objs.size<=c
 hd:X.calm=true->X.A.handled=none
 frames:X.A.frames=some X.stack
 stk:X.stack=X.outer\/(X.stack=X.env::X.outer/\X.env.frame=some X.env.locals)
 exf:∀b∈X.ex,b≠X.env.locals/\∀x c,X.env.cells.lookup x=some c->c≠b
 bs:∀b o,X.base.get? b=some o->X.s₀.heap.get? b=some o/\X.H₀ b=none
 bsz:X.base.objs.size<=X.s₀.heap.objs.size
 noex:∀b o,X.base.get? b=some o->b∉X.ex
 exfs:∀b∈X.ex,b∉X.fs
 funs:X.s₀.heap.FunFrames X.base X.outer
 frf:∀b∈X.fs,X.H₀ b=none
structure Inv(X:Cx)(pins:List (Addr×Obj))(σ:List (Option V))(H:Hp)(s:Shared):Prop where
 ok:X.Ok
 os:s.os=X.s₀.os
 bare:AllBare s.gens
 base:Un X.fs X.ex X.H₀ H X.s₀.heap s.heap
 loc:∃m,s.heap.Ns X.env.locals m/\∀(i:Nat) (x:Str) (v:V),X.N[i]?=some x->σ[i]?=some (some v)->Vis X.env.scope x->∃u,RelV v u/\yDD X.env s.heap m x u
 cell:∀x c,X.env.cells.lookup x=some c->∃v,s.heap.IsCell c v
 free:H X.env.locals=none
 freeC:∀x c,X.env.cells.lookup x=some c->H c=none
 pin:∀p∈X.pn++pins,s.heap.get? p.1=some p.2/\H p.1=none/\p.1≠X.env.locals/\p.1∉X.fs/\∀v,p.2.data≠.cell v
 hok:HOk X.prog X.w H s.heap
 len:σ.length=X.N.length
section
variable{X:Cx}{pins:List (Addr×Obj)}{σ:List (Option V)}{H H':Hp}{s:Shared}{h':Heap}
theorem Cx.Ok.nofr(ok:X.Ok){b:Addr}{o:Obj}(e:X.base.get? b=some o):b∉X.fs:=λhb=>by
 have:=(ok.funs.mem hb).1
 rw[e] at this;cases this
theorem Inv.bs(I:Inv X pins σ H s):∀b o,X.base.get? b=some o->s.heap.get? b=some o/\H b=none:=λb o e =>
 ⟨I.base.keep b o (I.ok.bs b o e).1 (I.ok.bs b o e).2 (I.ok.nofr e) (I.ok.noex b o e),I.base.free b o (I.ok.bs b o e).1 (I.ok.bs b o e).2 (I.ok.noex b o e)⟩
theorem Inv.bk(I:Inv X pins σ H s):∀b o,X.base.get? b=some o->s.heap.get? b=some o:=λb o e=>(I.bs b o e).1
theorem Inv.tab(I:Inv X pins σ H s):∀T q,TB X.K T q->∃ps,H T=some (.tbl q ps):=λT q b=>by
 obtain⟨ps,e⟩:=I.ok.tab T q b
 obtain⟨m,e'⟩:=I.base.tbls T q ps e
 exact⟨_,e'⟩
theorem Inv.mod(I:Inv X pins σ H s):Mod X.K X.mg X.base:=I.ok.mod
theorem Inv.kIn(I:Inv X pins σ H s):X.K.In s.heap:=I.ok.mod.kin.keeps I.bk
theorem Inv.nolimit(I:Inv X pins σ H s):s.heap.NoLimit:=I.ok.mod.nolimit.keeps I.bk
theorem Inv.fr(I:Inv X pins σ H s):∃m,Fr X.base X.env.locals s.heap m :=
 let ⟨m,hn,_⟩:=I.loc
 ⟨m,hn,I.bk,Nat.le_trans I.ok.bsz I.ok.above⟩
theorem Inv.lt(I:Inv X pins σ H s):X.env.locals<s.heap.objs.size:=let ⟨_,hn,_⟩:=I.loc;hn.lt
theorem Inv.sz(I:Inv X pins σ H s):X.s₀.heap.objs.size<=s.heap.objs.size:=Nat.le_trans I.ok.above (Nat.le_of_lt I.lt)
theorem Inv.nofs(I:Inv X pins σ H s){a:Addr}(h:s.heap.objs.size<=a):a∉X.fs:=λhb=>by
 obtain⟨_,o,ho,_⟩:=I.ok.funs.mem hb
 exact absurd (Nat.lt_of_lt_of_le (Heap.lt_size ho) (Nat.le_trans I.sz h)) (Nat.lt_irrefl _)
theorem Inv.cne(I:Inv X pins σ H s):∀x c,X.env.cells.lookup x=some c->c≠X.env.locals:=λx c e z=>by
 obtain⟨v,o,ho,hd⟩:=I.cell x c e
 obtain⟨m,⟨o',es,ep,ho',hd',_⟩,_⟩:=I.loc
 rw[z,ho'] at ho;cases ho;rw[hd'] at hd;cases hd
theorem Inv.funs(I:Inv X pins σ H s):s.heap.FunFrames X.base X.outer:=by
 have all:∀(l:List Env),(∀b∈frs l,b∈X.fs)->X.s₀.heap.FunFrames X.base l->s.heap.FunFrames X.base l:=by
  intro l
  induction l with
  |nil=>intro _ _;trivial
  |cons env r ih =>
   intro hs hl
   obtain⟨hk,⟨L,o,hf,hn,ho,hd⟩,hr⟩:=hl
   have hL:L∈X.fs:=hs L (by unfold frs;rw[List.filterMap_cons,hf];exact List.mem_cons_self)
   obtain⟨sl,e⟩:=I.base.slot L o ho (I.ok.frf L hL) hL λz=>I.ok.exfs L z hL
   exact⟨hk,⟨L,_,hf,hn,e,hd⟩,ih (λb hb=>hs b (by unfold frs;rw[List.filterMap_cons,hf];exact List.mem_cons_of_mem _ hb)) hr⟩
 exact all X.outer (λ_ hb=>hb) I.ok.funs
theorem Inv.stack(I:Inv X pins σ H s):s.heap.FunFrames X.base X.stack:=by
 rcases I.ok.stk with e|⟨e,hf⟩
 ·rw[e];exact I.funs
 ·rw[e]
  obtain⟨m,hn,_⟩:=I.loc
  refine .cons (by rw[I.ok.kind];decide) hf hn ?_ I.funs
  exact Heap.get?_none_of_le (Nat.le_trans I.ok.bsz I.ok.above)
theorem Inv.stkSub(I:Inv X pins σ H s):∀b∈frs X.stack,b∈X.env.locals::X.fs:=λb hb=>by
 rcases I.ok.stk with e|⟨e,hf⟩
 ·rw[e] at hb;exact List.mem_cons_of_mem _ hb
 ·rw[e] at hb
  unfold frs at hb
  rw[List.filterMap_cons,hf] at hb
  exact hb
theorem Inv.stkFree(I:Inv X pins σ H s):∀b∈frs X.stack,H b=none:=λb hb=>by
 rcases List.mem_cons.mp (I.stkSub b hb) with e|hb
 ·rw[e];exact I.free
 ·obtain⟨_,o,ho,_⟩:=I.ok.funs.mem hb
  exact I.base.free b o ho (I.ok.frf b hb) λz=>I.ok.exfs b z hb
theorem Inv.step{g':Array GenState}{t':Nat}{d':Drawn}{ch:List Addr}(I:Inv X pins σ H s)
  (hch:∀b∈ch,(b∈X.ex\/X.s₀.heap.objs.size<=b)/\b≠X.env.locals/\(∀x c,X.env.cells.lookup x=some c->c≠b)/\∀p∈X.pn++pins,p.1≠b)
  (keep:∀b o,b≠X.env.locals->b∉X.fs->b∉ch->s.heap.get? b=some o->H b=none->h'.get? b=some o)
  (slot:∀b o,b≠X.env.locals->b∈X.fs->b∉ch->s.heap.get? b=some o->H b=none->∃sl,h'.get? b=some { o with slots:=sl }) (free:∀b o,b∉ch->s.heap.get? b=some o->H b=none->H' b=none)
  (there:∀b o,b∉ch->s.heap.get? b=some o->∃o',h'.get? b=some o')
  (tups:∀b xs,H b=some (.tup xs)->H' b=some (.tup xs)) (frzs:∀b o u,H b=some (.frz o u)->H' b=some (.frz o u)) (tbls:∀b t ps,H b=some (.tbl t ps)->∃more,H' b=some (.tbl t (ps++more)))
  (ns:∀m,s.heap.Ns X.env.locals m->h'.Ns X.env.locals m) (hok:HOk X.prog X.w H' h') (hg:AllBare g') :
  Inv X pins σ H' { s with heap:=h',gens:=g',drawn:=d',toks:=t' }:=by
 have neL:∀b o,X.s₀.heap.get? b=some o->b≠X.env.locals:=λb o e=>Nat.ne_of_lt (Nat.lt_of_lt_of_le (Heap.lt_size e) I.ok.above)
 have neC:∀b o,X.s₀.heap.get? b=some o->b∉X.ex->b∉ch:=λb o e hx hb=>by
  rcases(hch b hb).1 with z|z
  ·exact hx z
  ·exact absurd (Nat.lt_of_lt_of_le (Heap.lt_size e) z) (Nat.lt_irrefl _)
 have cellK:∀x c,X.env.cells.lookup x=some c->∀v,s.heap.IsCell c v->h'.IsCell c v:=λx c e v ⟨o,ho,hd⟩=>by
  have nch:c∉ch:=λz=>(hch c z).2.2.1 x c e rfl
  by_cases hc:c∈X.fs
  ·obtain⟨sl,q⟩:=slot c o (I.cne x c e) hc nch ho (I.freeC x c e)
   exact⟨_,q,hd⟩
  ·exact⟨o,keep c o (I.cne x c e) hc nch ho (I.freeC x c e),hd⟩
 refine⟨I.ok,I.os,hg,⟨λb o e n hb hx=>?_,λb o e n hb hx=>?_,λb o e n hx=>?_,λb o e hx=>?_,λb xs e=>tups b xs (I.base.tups b xs e),λb o xs e=>frzs b o xs (I.base.frzs b o xs e),λb t ps e=>?_⟩,?_,λx c e=>?_,?_,λx c e=>?_,λp hp=>?_,hok,I.len⟩
 ·exact keep b o (neL b o e) hb (neC b o e hx) (I.base.keep b o e n hb hx) (I.base.free b o e n hx)
 ·obtain⟨sl,e1⟩:=I.base.slot b o e n hb hx
  obtain⟨sl',e2⟩:=slot b _ (neL b o e) hb (neC b o e hx) e1 (I.base.free b o e n hx)
  exact⟨sl',e2⟩
 ·obtain⟨o',e1⟩:=I.base.there b o e hx
  exact free b o' (neC b o e hx) e1 (I.base.free b o e n hx)
 ·obtain⟨o',e1⟩:=I.base.there b o e hx
  exact there b o' (neC b o e hx) e1
 ·obtain⟨m1,e1⟩:=I.base.tbls b t ps e
  obtain⟨m2,e2⟩:=tbls b t _ e1
  exact⟨m1++m2,by rw[e2,Array.append_assoc]⟩
 ·obtain⟨m,hn,hl⟩:=I.loc
  refine⟨m,ns m hn,λi x v e1 e2 e3=>?_⟩
  obtain⟨u,r,l⟩:=hl i x v e1 e2 e3
  refine⟨u,r,?_⟩
  rcases l with l|⟨k,c,e,z⟩
  ·exact .inl l
  ·exact .inr ⟨k,c,e,cellK x c e _ z⟩
 ·obtain⟨v,z⟩:=I.cell x c e
  exact⟨v,cellK x c e v z⟩
 ·obtain⟨m,⟨o,_,_,ho,_⟩,_⟩:=I.loc
  exact free _ o (λz=>(hch _ z).2.1 rfl) ho I.free
 ·obtain⟨v,o,ho,hd⟩:=I.cell x c e
  exact free c o (λz=>(hch c z).2.2.1 x c e rfl) ho (I.freeC x c e)
 ·obtain⟨e,n,ne,nf,d⟩:=I.pin p hp
  have nch:p.1∉ch:=λz=>(hch p.1 z).2.2.2 p hp rfl
  exact⟨keep p.1 p.2 ne nf nch e n,free p.1 p.2 nch e n,ne,nf,d⟩
theorem Inv.un{t':Nat}(I:Inv X pins σ H s)(u:Un X.fs [] H H' s.heap h')(hok:HOk X.prog X.w H' h'):Inv X pins σ H' { s with heap:=h',toks:=t' }:=by
 obtain⟨m,⟨o,es,ep,ho,r⟩,_⟩:=id I.loc
 obtain⟨sl,hL⟩:=u.any ho I.free (by simp)
 exact I.step (g':=s.gens) (d':=s.drawn) (ch:=[]) (λ_ z=>nomatch z) (λb o _ hb _ e n=>u.keep b o e n hb (by simp)) (λb o _ hb _ e n=>u.slot b o e n hb (by simp)) (λb o _ e n=>u.free b o e n (by simp)) (λb o _ e=>u.there b o e (by simp)) u.tups u.frzs u.tbls (λm' hm=>by
  obtain⟨o',es',ep',ho',r'⟩:=hm
  rw[ho] at ho';cases ho'
  exact⟨_,es',ep',hL,r'⟩) hok I.bare
theorem Inv.call{g':Array GenState}{t':Nat}{d':Drawn}{ch:List Addr}(I:Inv X pins σ H s)(u:Un (frs X.stack) ch H H' s.heap h')(hok:HOk X.prog X.w H' h')(hg:AllBare g')
  (hch:∀b∈ch,(b∈X.ex\/X.s₀.heap.objs.size<=b)/\b≠X.env.locals/\(∀x c,X.env.cells.lookup x=some c->c≠b)/\∀p∈X.pn++pins,p.1≠b) :
  Inv X pins σ H' { s with heap:=h',gens:=g',drawn:=d',toks:=t' }:=by
 obtain⟨m,⟨o,es,ep,ho,r⟩,_⟩:=id I.loc
 obtain⟨sl,hL⟩:=u.any ho I.free λz=>(hch _ z).2.1 rfl
 exact I.step (ch:=ch) hch (λb o hL hb hc e n=>u.keep b o e n (λz=>(List.mem_cons.mp (I.stkSub b z)).elim hL hb) hc) (λb o _ _ hc e n=>u.any e n hc) (λb o hc e n=>u.free b o e n hc) (λb o hc e=>u.there b o e hc) u.tups u.frzs u.tbls (λm' hm=>by
  obtain⟨o',es',ep',ho',r'⟩:=hm
  rw[ho] at ho';cases ho'
  exact⟨_,es',ep',hL,r'⟩) hok hg
theorem Inv.turned{t':Nat}{it:Addr}(I:Inv X pins σ H s)(k:∀b o,b≠it->s.heap.get? b=some o->h'.get? b=some o)(hn:H it=none)(hL:it≠X.env.locals)
  (h1:it∈X.ex\/X.s₀.heap.objs.size<=it) (h2:∀x c,X.env.cells.lookup x=some c->c≠it) (h3:∀p∈X.pn++pins,p.1≠it):Inv X pins σ H { s with heap:=h',toks:=t' }:=by
 have nit:∀b u,H b=some u->b≠it:=λb u e z=>by rw[z,hn] at e;cases e
 refine I.step (g':=s.gens) (d':=s.drawn) (ch:=[it]) (λb hb=>?_) (λb o _ _ hc e _=>k b o (λz=>hc (by simp[z])) e) (λb o _ _ hc e _=>⟨o.slots,k b o (λz=>hc (by simp[z])) e⟩) (λ_ _ _ _ n=>n)
  (λb o hc e=>⟨o,k b o (λz=>hc (by simp[z])) e⟩) (λ_ _ e=>e) (λ_ _ _ e=>e) (λb t ps e=>⟨#[],by rw[e];simp⟩) (λm hm=>?_) (λb u e=>?_) I.bare
 ·have e:b=it:=by simpa using hb
  subst e
  exact⟨h1,hL,h2,h3⟩
 ·obtain⟨o,es,ep,ho,r⟩:=hm
  exact⟨o,es,ep,k _ o (Ne.symm hL) ho,r⟩
 ·refine(I.hok b u e).stay (λc v hc q=>k c v ?_ q) (λ_ q=>q) (λ_ _ q=>q) λ_ _ _ q=>q
  rcases hc with z|z
  ·rw[z];exact nit b u e
  ·exact nit c _ z
theorem Inv.tok(I:Inv X pins σ H s)(t:Nat):Inv X pins σ H { s with toks:=t }:=I.un (h':=s.heap) (t':=t) Un.refl I.hok
theorem Inv.kept{t':Nat}(I:Inv X pins σ H s)(k:∀b u,s.heap.get? b=some u->h'.get? b=some u):Inv X pins σ H { s with heap:=h',toks:=t' }:=I.un (Un.kept k) (I.hok.kept k)
theorem Inv.laid{a:Addr}{o:HO}{t':Nat}(I:Inv X pins σ H s)(k:∀b u,s.heap.get? b=some u->h'.get? b=some u)(hp:s.heap.objs.size<=a)(new:ObjOk X.prog X.w (upd H a o) h' a o) :
  Inv X pins σ (upd H a o) { s with heap:=h',toks:=t' }:=I.un (Un.laid k hp (I.hok.fresh hp)) (I.hok.laid k hp new)
theorem Inv.write{x e:Addr}{o:HO}{t':Nat}(I:Inv X pins σ H s)(mu:Mut (H x))(he:e=x\/H e=some (.own x))(k:∀b u,b≠e->s.heap.get? b=some u->h'.get? b=some u)(heo:∃u,h'.get? e=some u)
  (new:ObjOk X.prog X.w (upd H x o) h' x o):Inv X pins σ (upd H x o) { s with heap:=h',toks:=t' }:=I.un (Un.write mu he k heo) (I.hok.write mu he k heo new)
theorem Inv.pins_of{pins':List (Addr×Obj)}(I:Inv X pins σ H s)(h:∀p∈pins',s.heap.get? p.1=some p.2/\H p.1=none/\p.1≠X.env.locals/\p.1∉X.fs/\∀v,p.2.data≠.cell v):Inv X pins' σ H s :=
 ⟨I.ok,I.os,I.bare,I.base,I.loc,I.cell,I.free,I.freeC,λp hp=>(List.mem_append.mp hp).elim (λz=>I.pin p (List.mem_append_left _ z)) (h p),I.hok,I.len⟩
theorem zL2{N:List Str}(hN:N.Nodup){i j:Nat}{x:Str}(a:N[i]?=some x)(b:N[j]?=some x):i=j:=by
 obtain⟨h1,e1⟩:=List.getElem?_eq_some_iff.mp a
 obtain⟨h2,e2⟩:=List.getElem?_eq_some_iff.mp b
 exact(List.getElem_inj hN).mp (e1.trans e2.symm)
theorem zIS{M:Model}{A:Around}{E:Value->Shared->Prop}{i:Nat}{x:Str}{v:V}{u:Value}{Q:Unit->Shared->Prop}(I:Inv X pins σ H s)(hN:X.N.Nodup)(hi:X.N[i]?=some x)(hx:Loc X.env.scope x)(r:RelV v u)
  (h:∀s',Inv X pins (σ.set i (some v)) H s'->(∃a,Heap.SameBut a s.heap s'.heap/\(a=X.env.locals\/X.env.cells.lookup x=some a))->Q () s') (hf:X.fn x=true\/X.env.scope.names.lookup x=some .local:=by first|exact .inl rfl|exact .inr rfl|assumption):wpAny M A (storeName X.env x u) Q E s:=by
 obtain⟨m,hn,hl⟩:=id I.loc
 have hcls:(X.env.scope.kind==.class||(X.env.scope.kind==.module&&X.env.locals != X.env.globals))=false:=by rw[I.ok.kind];rfl
 have hiσ:i < σ.length:=by rw[I.len];exact(List.getElem?_eq_some_iff.mp hi).1
 have cne:=I.cne
 have tracked:∀{a:Addr} {h':Heap},(∃o,s.heap.get? a=some o/\H a=none)->Heap.SameBut a s.heap h'->HOk X.prog X.w H h':=λ{a h'} ha hs b ob e=>by
  obtain⟨_,_,hfree⟩:=ha
  refine(I.hok b ob e).stay (λc w' hc q=>(hs.2 c ?_).trans q) (λ_ q=>q) (λ_ _ q=>q) λ_ _ _ q=>q
  rintro rfl
  rcases hc with rfl|hc
  ·rw[hfree] at e;cases e
  ·rw[hfree] at hc;cases hc
 rcases hx with hk|hk
 ·refine wpAny_storeName_local hk hn (λh' hn' hs=>?_) hcls
  obtain⟨oL,_,_,hoL,_⟩:=id hn
  refine h _ ⟨I.ok,I.os,I.bare,⟨λb o e n hb hx=>?_,λb o e n hb hx=>?_,I.base.free,λb o e hx=>?_,I.base.tups,I.base.frzs,I.base.tbls⟩,⟨_,hn',λj y v' e1 e2 e3=>?_⟩,λy c e=>?_,I.free,I.freeC,λp hp=>?_,tracked ⟨oL,hoL,I.free⟩ hs,by simpa using I.len⟩ ⟨_,hs,.inl rfl⟩
  ·exact(hs.2 b (Nat.ne_of_lt (Nat.lt_of_lt_of_le (Heap.lt_size e) I.ok.above))).trans (I.base.keep b o e n hb hx)
  ·obtain⟨sl,e1⟩:=I.base.slot b o e n hb hx
   exact⟨sl,(hs.2 b (Nat.ne_of_lt (Nat.lt_of_lt_of_le (Heap.lt_size e) I.ok.above))).trans e1⟩
  ·obtain⟨o',e1⟩:=I.base.there b o e hx
   exact⟨o',(hs.2 b (Nat.ne_of_lt (Nat.lt_of_lt_of_le (Heap.lt_size e) I.ok.above))).trans e1⟩
  ·by_cases hj:j=i
   ·subst hj
    rw[hi] at e1;cases e1
    rw[List.getElem?_set_self hiσ] at e2
    cases e2
    exact⟨u,r,.inl ⟨hk,by simp⟩⟩
   ·rw[List.getElem?_set_ne (Ne.symm hj)] at e2
    obtain⟨u',r',q⟩:=hl j y v' e1 e2 e3
    refine⟨u',r',?_⟩
    rcases q with⟨k,e⟩|⟨k,c,e,z⟩
    ·refine .inl ⟨k,?_⟩
     have:y≠x:=λe=>hj (zL2 hN e1 (e▸hi))
     simp[this,e]
    ·exact .inr ⟨k,c,e,z.sameBut hs (cne y c e)⟩
  ·obtain⟨w',z⟩:=I.cell y c e
   exact⟨w',z.sameBut hs (cne y c e)⟩
  ·obtain⟨e,n,ne,nf,d⟩:=I.pin p hp
   exact⟨(hs.2 p.1 ne).trans e,n,ne,nf,d⟩
 ·have hfn:X.fn x=true:=by
   rcases hf with z|z
   ·exact z
   ·rw[z] at hk;cases hk
  obtain⟨c,hc⟩:=I.ok.has x (.inl hk)
  obtain⟨w',z⟩:=I.cell x c hc
  refine wpAny_storeName_cell I.ok.kind hk hc z (λh' hc' hs=>?_)
  obtain⟨oc,hoc,hocd⟩:=id z
  refine h { s with heap:=h' } ⟨I.ok,I.os,I.bare,⟨λb o e n hb hx=>?_,λb o e n hb hx=>?_,I.base.free,λb o e hx=>?_,I.base.tups,I.base.frzs,I.base.tbls⟩,⟨m,hn.sameBut hs (Ne.symm (cne x c hc)),λj y v' e1 e2 e3=>?_⟩,λy c' e=>?_,I.free,I.freeC,λp hp=>?_,tracked ⟨oc,hoc,I.freeC x c hc⟩ hs,by simpa using I.len⟩ ⟨c,hs,.inr hc⟩
  ·exact(hs.2 b (Nat.ne_of_lt (Nat.lt_of_lt_of_le (Heap.lt_size e) (I.ok.cab x c hfn hc)))).trans (I.base.keep b o e n hb hx)
  ·obtain⟨sl,e1⟩:=I.base.slot b o e n hb hx
   exact⟨sl,(hs.2 b (Nat.ne_of_lt (Nat.lt_of_lt_of_le (Heap.lt_size e) (I.ok.cab x c hfn hc)))).trans e1⟩
  ·obtain⟨o',e1⟩:=I.base.there b o e hx
   exact⟨o',(hs.2 b (Nat.ne_of_lt (Nat.lt_of_lt_of_le (Heap.lt_size e) (I.ok.cab x c hfn hc)))).trans e1⟩
  ·by_cases hj:j=i
   ·subst hj
    rw[hi] at e1;cases e1
    rw[List.getElem?_set_self hiσ] at e2
    cases e2
    exact⟨u,r,.inr ⟨.inl hk,c,hc,hc'⟩⟩
   ·rw[List.getElem?_set_ne (Ne.symm hj)] at e2
    obtain⟨u',r',q⟩:=hl j y v' e1 e2 e3
    refine⟨u',r',?_⟩
    rcases q with q|⟨k,c',e,z'⟩
    ·exact .inl q
    ·refine .inr ⟨k,c',e,z'.sameBut hs ?_⟩
     rintro rfl
     exact hj (zL2 hN e1 (I.ok.inj _ _ _ e hc▸hi))
  ·by_cases hcc:c'=c
   ·subst hcc;exact⟨_,hc'⟩
   ·obtain⟨w2,z2⟩:=I.cell y c' e
    exact⟨w2,z2.sameBut hs hcc⟩
  ·obtain⟨e,n,ne,nf,d⟩:=I.pin p hp
   refine⟨(hs.2 p.1 ?_).trans e,n,ne,nf,d⟩
   intro q
   rw[q,hoc] at e
   have q':oc=p.2:=Option.some.inj e
   exact d w' (by rw[<-q'];exact hocd)
theorem zL3{M:Model}{A:Around}{E:Value->Shared->Prop}{i:Nat}{x:Str}{v:V}{u:Value}{Q:Unit->Shared->Prop}(I:Inv X pins σ H s)(hN:X.N.Nodup)(hi:X.N[i]?=some x)(hx:Loc X.env.scope x)(r:RelV v u)
  (h:∀s',Inv X pins (σ.set i (some v)) H s'->Q () s') (hf:X.fn x=true\/X.env.scope.names.lookup x=some .local:=by first|exact .inl rfl|exact .inr rfl|assumption):wpAny M A (storeName X.env x u) Q E s :=
 zIS I hN hi hx r (λs' I' _=>h s' I') hf
theorem Inv.call'{s':Shared}{ch:List Addr}(I:Inv X pins σ H s)(ho:s'.os=s.os)(u:Un (frs X.stack) ch H H' s.heap s'.heap)(hok:HOk X.prog X.w H' s'.heap)(hg:AllBare s'.gens)
  (hch:∀b∈ch,(b∈X.ex\/X.s₀.heap.objs.size<=b)/\b≠X.env.locals/\(∀x c,X.env.cells.lookup x=some c->c≠b)/\∀p∈X.pn++pins,p.1≠b):Inv X pins σ H' s':=by
 obtain⟨h',g',d',t',o'⟩:=s'
 have e:o'=s.os:=ho
 subst e
 exact I.call (g':=g') (t':=t') (d':=d') u hok hg hch
end
abbrev XK:=Value->Option Addr->Hp->Prop
abbrev St:=List (Option V)
abbrev VK:=V->Hp->Prop
abbrev TE:=St->Hp->VK->Prop
abbrev TT:=St->Hp->(Bool->Hp->Prop)->Prop
abbrev TA:=St->Hp->(List V->Hp->Prop)->Prop
structure Ends where
 nx:St->Hp->Prop
 rt:VK
 bk:St->Hp->Prop:=λ_ _=>False
 ct:St->Hp->Prop:=λ_ _=>False
abbrev TS:=Ends->St->Hp->Prop
def EP(X:Cx)(pins:List (Addr×Obj))(σ:St)(Q:VK)(u:Value)(s':Shared):Prop:=∃v H',Inv X pins σ H' s'/\RelV v u/\Q v H'
def TP(X:Cx)(pins:List (Addr×Obj))(σ:St)(Q:Bool->Hp->Prop)(b:Bool)(s':Shared):Prop:=∃H',Inv X pins σ H' s'/\Q b H'
def AP(X:Cx)(pins:List (Addr×Obj))(σ:St)(Q:List V->Hp->Prop)(us:List Value)(s':Shared):Prop:=∃vs H',Inv X pins σ H' s'/\Vals vs us/\Q vs H'
def SP(X:Cx)(pins:List (Addr×Obj))(D:Ends)(f:Flow)(s':Shared):Prop :=
 match f with
 |.next=>∃σ' H',Inv X pins σ' H' s'/\D.nx σ' H'
 |.brk=>∃σ' H',Inv X pins σ' H' s'/\D.bk σ' H'
 |.cont=>∃σ' H',Inv X pins σ' H' s'/\D.ct σ' H'
 |.ret u=>∃v σ' H',Inv X pins σ' H' s'/\RelV v u/\D.rt v H'
def PE(X:Cx)(e:Expr)(t:TE):Prop :=
 ∀(pins:List (Addr×Obj)) (s:Shared) (σ:St) (H:Hp) (Q:VK),Inv X pins σ H s->t σ H Q->wpAny (model X.prog X.w) X.A (eval e X.env) (EP X pins σ Q) X.xe s
def PT(X:Cx)(e:Expr)(t:TT):Prop :=
 ∀(pins:List (Addr×Obj)) (s:Shared) (σ:St) (H:Hp) (Q:Bool->Hp->Prop),Inv X pins σ H s->t σ H Q->wpAny (model X.prog X.w) X.A (isTrue e X.env (eval e X.env)) (TP X pins σ Q) X.xe s
def PW(X:Cx)(e:Expr)(t:TT):Prop :=
 ∀(whole:Sem Value) (pins:List (Addr×Obj)) (s:Shared) (σ:St) (H:Hp) (Q:Bool->Hp->Prop),Inv X pins σ H s->t σ H Q->wpAny (model X.prog X.w) X.A (isTrue e X.env whole) (TP X pins σ Q) X.xe s
theorem PW.pt{X:Cx}{e:Expr}{t:TT}(h:PW X e t):PT X e t:=h _
def PA(X:Cx)(es:List Expr)(t:TA):Prop :=
 ∀(pos:Pos) (pins:List (Addr×Obj)) (s:Shared) (σ:St) (H:Hp) (Q:List V->Hp->Prop),Inv X pins σ H s->t σ H Q->wpAny (model X.prog X.w) X.A (spliced (backTo pos (starEach es X.env))) (AP X pins σ Q) X.xe s
def PS(X:Cx)(st:Stmt)(t:TS):Prop :=
 ∀(pins:List (Addr×Obj)) (s:Shared) (σ:St) (H:Hp) (D:Ends),Inv X pins σ H s->t D σ H->wpAny (model X.prog X.w) X.A (exec st X.env) (SP X pins D) X.xe s
def PSs(X:Cx)(st:List Stmt)(t:TS):Prop :=
 ∀(pins:List (Addr×Obj)) (s:Shared) (σ:St) (H:Hp) (D:Ends),Inv X pins σ H s->t D σ H->wpAny (model X.prog X.w) X.A (execs st X.env) (SP X pins D) X.xe s
theorem thn{α:Type}{t:Sem α}{Q Q':α->Shared->Prop}{M:Model}{A:Around}{E:Value->Shared->Prop}{s:Shared}(h:wpAny M A t Q E s)(hQ:∀a s,Q a s->Q' a s):wpAny M A t Q' E s:=wpAny_mono h hQ λ_ _ x=>x
section
variable{X:Cx}
theorem bin{a b:Expr}{ta tb:TE}(ha:PE X a ta)(hb:PE X b tb){pins:List (Addr×Obj)}{s:Shared}{σ:St}{H:Hp}{R:V->V->Hp->Prop}(I:Inv X pins σ H s)(h:ta σ H λx H1=>tb σ H1 λy H2=>R x y H2)
  {α:Type} {Q:α->Shared->Prop} {f:Value->Value->Sem α}
  (hf:∀v u s2 x y H2,Inv X pins σ H2 s2->RelV x v->RelV y u->R x y H2->wpAny (model X.prog X.w) X.A (f v u) Q X.xe s2) :
  wpAny (model X.prog X.w) X.A (eval a X.env) (λv s₁=>wpAny (model X.prog X.w) X.A (eval b X.env) (λu s₂=>wpAny (model X.prog X.w) X.A (f v u) Q X.xe s₂) X.xe s₁) X.xe s:=by
 refine thn (ha pins s σ H _ I h) λv s1 ⟨x,H1,I1,r1,q1⟩=>?_
 refine thn (hb pins s1 σ H1 _ I1 q1) λu s2 ⟨y,H2,I2,r2,q2⟩=>?_
 exact hf v u s2 x y H2 I2 r1 r2 q2
def zQ2(i:Nat):TE:=λσ H Q=>∃v,σ[i]?=some (some v)/\Q v H
def tC(v:V):TE:=λ_ H Q=>Q v H
theorem zFF{i:Nat}{x:Str}{pos:Pos}(hN:X.N[i]?=some x)(hv:Vis X.env.scope x)(hd:(x==("__debug__":Str))=false:=by decide)(hcd:(x==("__classdict__":Str))=false:=by decide):PE X (.Name x pos) (zQ2 i):=by
 intro pins s σ H Q I h
 obtain⟨v,e,h⟩:=h
 obtain⟨m,hn,hl⟩:=I.loc
 obtain⟨u,r,l⟩:=hl i x v hN e hv
 have fin:EP X pins σ Q u s:=⟨v,H,I,r,h⟩
 rcases l with⟨hk,hm⟩|⟨hk,c,hc,hcell⟩
 ·exact wpAny_Name (wpAny_loadName_local I.ok.kind hk hn hm fin) hd
 ·rcases hk with hk|hk
  ·exact wpAny_Name (wpAny_loadName_cell I.ok.kind hk hc hcell fin) hd
  ·exact wpAny_Name (wpAny_loadName_free I.ok.kind hk hc hcell fin hcd) hd
theorem pe_int {i j pos}:PE X (.Constant (.int i) j pos) (tC (.int i)):=λ_ _ _ H _ I h=>wpAny_Constant_int ⟨.int i,H,I.tok _,⟨_,rfl⟩,h⟩
theorem pe_bl {b j pos}:PE X (.Constant (.bool b) j pos) (tC (.bl b)):=λ_ _ _ H _ I h=>Constant_bool ⟨.bl b,H,I,rfl,h⟩
theorem pe_non {j pos}:PE X (.Constant .none j pos) (tC .non):=λ_ _ _ H _ I h=>Constant_none ⟨.non,H,I,rfl,h⟩
def Gl(X:Cx)(x:Str):Prop:=X.env.kindOf x=some .globalImplicit
theorem zUU{E:Value->Shared->Prop}{pins:List (Addr×Obj)}{s:Shared}{σ:St}{H:Hp}{x:Str}{u:Value}{pos:Pos}{Q:Value->Shared->Prop}(I:Inv X pins σ H s)(hg:Gl X x)(hm:X.mg x=some u)(h:Q u s)
  (hd:(x==("__debug__":Str))=false:=by decide):wpAny (model X.prog X.w) X.A (eval (.Name x pos) X.env) Q E s :=
 Calls.Name_function_global I.ok.kind hg (Calls.loadGlobal_global (by rw[I.ok.glob];exact I.mod.glob.keeps I.bk) hm h) hd
theorem zFG{E:Value->Shared->Prop}{pins:List (Addr×Obj)}{s:Shared}{σ:St}{H:Hp}{x:Str}{u:Value}{pos:Pos}{Q:Value->Shared->Prop}(I:Inv X pins σ H s)(hg:Gl X x)(hm:X.mg x=none)(hv:bootBuiltins x=some u)(h:Q u s)
  (hn:x≠"__name__":=by decide) (hd:(x==("__debug__":Str))=false:=by decide):wpAny (model X.prog X.w) X.A (eval (.Name x pos) X.env) Q E s:=by
 obtain⟨mb,h1,h2⟩:=I.mod.blt
 exact Calls.Name_function_global I.ok.kind hg (Calls.loadGlobal_builtin (by rw[I.ok.glob];exact I.mod.glob.keeps I.bk) hm (by rw[I.ok.blt];exact h1.keeps I.bk) ((h2 x hn).trans hv) h) hd
theorem zUV{x:Str}{v:V}{u:Value}{pos:Pos}(hg:Gl X x)(hm:X.mg x=none)(hv:bootBuiltins x=some u)(r:RelV v u)(hn:x≠"__name__":=by decide)(hd:(x==("__debug__":Str))=false:=by decide):PE X (.Name x pos) (tC v) :=
 λ_ _ _ H _ I h=>zFG I hg hm hv ⟨v,H,I,r,h⟩ hn hd
variable{a b:Expr}{ta tb:TE}{pos:Pos}
variable{tA tB':TT}{rest:List Expr}
def yDE(t u:TT):TT:=λσ H Q=>t σ H λc H1=>if c=true then u σ H1 Q else Q false H1
def tOr(t u:TT):TT:=λσ H Q=>t σ H λc H1=>if c=true then Q true H1 else u σ H1 Q
def yDF(t:TT):TT:=λσ H Q=>t σ H λc H1=>Q (!c) H1
theorem zUW(ha:PT X a tA):PW X (.BoolOp .And [a] pos) tA:=by
 intro wh pins s σ H Q I h
 refine isTrue_and (thn (ha pins s σ H Q I h) λc s1 e=>?_)
 cases c with
 |true=>exact isTrue_and_nil e
 |false=>exact e
theorem zXZ(ha:PT X a tA):PW X (.BoolOp .Or [a] pos) tA:=by
 intro wh pins s σ H Q I h
 refine isTrue_or (thn (ha pins s σ H Q I h) λc s1 e=>?_)
 cases c with
 |false=>exact isTrue_or_nil e
 |true=>exact e
theorem zX0(ha:PT X a tA)(hb:PW X (.BoolOp .And (b::rest) pos) tB'):PW X (.BoolOp .And (a::b::rest) pos) (yDE tA tB'):=by
 intro wh pins s σ H Q I h
 refine isTrue_and (thn (ha pins s σ H _ I h) λc s1 ⟨H1,I1,q1⟩=>?_)
 cases c with
 |true=>exact hb wh pins s1 σ H1 Q I1 q1
 |false=>exact⟨H1,I1,q1⟩
theorem yA4(ha:PT X a tA)(hb:PW X (.BoolOp .Or (b::rest) pos) tB'):PW X (.BoolOp .Or (a::b::rest) pos) (tOr tA tB'):=by
 intro wh pins s σ H Q I h
 refine isTrue_or (thn (ha pins s σ H _ I h) λc s1 ⟨H1,I1,q1⟩=>?_)
 cases c with
 |true=>exact⟨H1,I1,q1⟩
 |false=>exact hb wh pins s1 σ H1 Q I1 q1
theorem zX1(ha:PT X a tA):PT X (.UnaryOp .Not a pos) (yDF tA):=by
 intro pins s σ H Q I h
 exact isTrue_not (ha pins s σ H (λc H1=>Q (!c) H1) I h)
def tIf(t:TT)(ta tb:TE):TE:=λσ H Q=>t σ H λc H1=>if c=true then ta σ H1 Q else tb σ H1 Q
theorem zRE{c:Expr}(hc:PT X c tA)(ha:PE X a ta)(hb:PE X b tb):PE X (.IfExp c a b pos) (tIf tA ta tb):=by
 intro pins s σ H Q I h
 refine wpAny_IfExp (thn (hc pins s σ H _ I h) λd s1 ⟨H1,I1,q1⟩=>?_)
 cases d with
 |true=>exact ha pins s1 σ H1 Q I1 q1
 |false=>exact hb pins s1 σ H1 Q I1 q1
end
def SqL(K:PySem.W.Frag)(H:Hp)(a:Addr)(xs:List V):Prop :=
 Rd H a (.lst xs) \/
  ∃(o:Obj) (its:Array Value) (n:Nat),K.lookup a=some o/\o.cls=.type "list"/\o.dict=none/\o.data=.seq its n/\its.size<=sizeLine/\Vals xs its.toList
def SqT(K:PySem.W.Frag)(H:Hp)(a:Addr)(xs:List V):Prop :=
 Rd H a (.tup xs) \/
  ∃(o:Obj) (its:Array Value) (n:Nat),K.lookup a=some o/\o.cls=.type "tuple"/\o.data=.seq its n/\its.size<=sizeLine/\Vals xs its.toList
noncomputable def yDG:Value->Option V
 |.none=>some .non
 |.bool b=>some (.bl b)
 |.int i _=>some (.int i)
 |.str x _=>some (.str x)
 |.bytes b _=>some (.byt b)
 |.float b _=>some (.flt b)
 |.ref a=>some (.ref a)
 |.type n=>some (.ty n)
 |_=>none
theorem RelV.abs{x:V}{u:Value}(r:RelV x u):yDG u=some x:=by
 cases x with
 |non=>cases r;rfl
 |bl _=>cases r;rfl
 |int _=>obtain⟨t,rfl⟩:=r;rfl
 |str _=>obtain⟨t,rfl⟩:=r;rfl
 |byt _=>obtain⟨t,rfl⟩:=r;rfl
 |flt _=>obtain⟨t,rfl⟩:=r;rfl
 |ref _=>cases r;rfl
 |ty _=>cases r;rfl
theorem RelV.inj{x y:V}{u:Value}(r:RelV x u)(q:RelV y u):x=y:=Option.some.inj (r.abs.symm.trans q.abs)
theorem Vals.inj:∀{xs ys:List V} {us:List Value},Vals xs us->Vals ys us->xs=ys
 |_,_,_,.nil,.nil=>rfl
 |_,_,_,.cons r t,.cons r' t'=>by rw[r.inj r',Vals.inj t t']
section
variable{X:Cx}{pins:List (Addr×Obj)}{σ:St}{H:Hp}{s:Shared}{a:Addr}{xs ys:List V}
theorem SqL.of{K:PySem.W.Frag}(h:H a=some (.lst xs)):SqL K H a xs:=.inl (.inl h)
theorem SqT.of{K:PySem.W.Frag}(h:H a=some (.tup xs)):SqT K H a xs:=.inl (.inl h)
theorem Inv.list(I:Inv X pins σ H s)(h:SqL X.K H a xs):∃its:List Value,Vals xs its/\PlainL s.heap a its.toArray/\xs.length<=sizeLine:=by
 rcases h with h|⟨o,its,n,hk,hc,hd,hs,hz,r⟩
 ·obtain⟨z,its,n,r,e⟩:=h.ok I.hok
  exact⟨its,r,⟨_,n,e,rfl,rfl,rfl⟩,z⟩
 ·refine⟨its.toList,r,⟨o,n,I.kIn a o hk,hc,hd,by simpa using hs⟩,?_⟩
  have e:=r.length
  simp only[Array.length_toList] at e
  lia
theorem Inv.tuple(I:Inv X pins σ H s)(h:SqT X.K H a xs):∃its:List Value,Vals xs its/\IsTup s.heap a its.toArray/\xs.length<=sizeLine:=by
 rcases h with h|⟨o,its,n,hk,hc,hs,hz,r⟩
 ·obtain⟨z,its,r,p⟩:=h.ok I.hok
  exact⟨its,r,p.isTup,z⟩
 ·refine⟨its.toList,r,⟨o,I.kIn a o hk,hc,n,by simpa using hs⟩,?_⟩
  have e:=r.length
  simp only[Array.length_toList] at e
  lia
theorem Inv.list_inj(I:Inv X pins σ H s)(h:SqL X.K H a xs)(h':SqL X.K H a ys):xs=ys:=by
 obtain⟨its,r,⟨o,n,e,_,_,d⟩,_⟩:=I.list h
 obtain⟨its',r',⟨o',n',e',_,_,d'⟩,_⟩:=I.list h'
 rw[e] at e';cases e'
 rw[d] at d'
 injection d' with d1 _
 have:its=its':=by simpa using congrArg Array.toList d1
 subst this
 exact r.inj r'
theorem Inv.tuple_inj(I:Inv X pins σ H s)(h:SqT X.K H a xs)(h':SqT X.K H a ys):xs=ys:=by
 obtain⟨its,r,⟨o,e,_,n,d⟩,_⟩:=I.tuple h
 obtain⟨its',r',⟨o',e',_,n',d'⟩,_⟩:=I.tuple h'
 rw[e] at e';cases e'
 rw[d] at d'
 injection d' with d1 _
 have:its=its':=by simpa using congrArg Array.toList d1
 subst this
 exact r.inj r'
end
noncomputable abbrev Cx.wish(X:Cx)(E:Value->Shared->Prop):Cx:={ X with xe:=E }
noncomputable abbrev Cx.nox(X:Cx):Cx:=X.wish λ_ _=>False
theorem Cx.Ok.wish{X:Cx}(ok:X.Ok)(E:Value->Shared->Prop):(X.wish E).Ok :=
 ⟨ok.tab,ok.mod,ok.kind,ok.glob,ok.blt,ok.above,ok.inj,ok.has,ok.cab,ok.hd,ok.frames,ok.stk,ok.exf,ok.bs,ok.bsz,ok.noex,ok.exfs,ok.funs,ok.frf⟩
theorem Cx.Ok.unwish{X:Cx}{E:Value->Shared->Prop}(ok:(X.wish E).Ok):X.Ok :=
 ⟨ok.tab,ok.mod,ok.kind,ok.glob,ok.blt,ok.above,ok.inj,ok.has,ok.cab,ok.hd,ok.frames,ok.stk,ok.exf,ok.bs,ok.bsz,ok.noex,ok.exfs,ok.funs,ok.frf⟩
section
variable{X:Cx}{pins:List (Addr×Obj)}{σ:St}{H:Hp}{s:Shared}{E:Value->Shared->Prop}
theorem Inv.wish(I:Inv X pins σ H s)(E:Value->Shared->Prop):Inv (X.wish E) pins σ H s:=⟨I.ok.wish E,I.os,I.bare,I.base,I.loc,I.cell,I.free,I.freeC,I.pin,I.hok,I.len⟩
theorem Inv.unwish(I:Inv (X.wish E) pins σ H s):Inv X pins σ H s:=⟨I.ok.unwish,I.os,I.bare,I.base,I.loc,I.cell,I.free,I.freeC,I.pin,I.hok,I.len⟩
theorem SP.unwish{D:Ends}{f:Flow}{s':Shared}(h:SP (X.wish E) pins D f s'):SP X pins D f s':=by
 cases f with
 |next=>obtain⟨σ',H',I,q⟩:=h;exact⟨σ',H',I.unwish,q⟩
 |brk=>obtain⟨σ',H',I,q⟩:=h;exact⟨σ',H',I.unwish,q⟩
 |cont=>obtain⟨σ',H',I,q⟩:=h;exact⟨σ',H',I.unwish,q⟩
 |ret u=>obtain⟨v,σ',H',I,r,q⟩:=h;exact⟨v,σ',H',I.unwish,r,q⟩
theorem PSs.nox{st:List Stmt}{t:TS}(h:PSs X.nox st t):PSs X st t:=λpins s σ H D I hw =>
 wpAny_mono (h pins s σ H D (I.wish _) hw) (λ_ _ q=>q.unwish) λ_ _ z=>False.elim z
end
section
variable{X:Cx}{st:Stmt}{rest:List Stmt}{t u:TS}{e:Expr}{te:TE}{pos:Pos}
def zX2:TS:=λD σ H=>D.nx σ H
def zX3(t u:TS):TS:=λD σ H=>t { D with nx:=u D } σ H
theorem pss_nil:PSs X [] zX2:=λ_ _ σ H _ I h=>wpAny_execs_nil ⟨σ,H,I,h⟩
theorem zCW(h1:PS X st t)(h2:PSs X rest u):PSs X (st::rest) (zX3 t u):=by
 intro pins s σ H D I h
 refine wpAny_execs_cons (thn (h1 pins s σ H { D with nx:=u D } I h) λf s1 q=>?_)
 cases f with
 |next =>
  obtain⟨σ',H',I',q⟩:=q
  exact h2 pins s1 σ' H' D I' q
 |ret v=>exact q
 |brk=>exact q
 |cont=>exact q
theorem zDT(h1:PS X st t):PSs X [st] t:=by
 intro pins s σ H D I h
 refine wpAny_execs_cons (thn (h1 pins s σ H D I h) λf s1 q=>?_)
 cases f with
 |next=>exact wpAny_execs_nil q
 |ret v=>exact q
 |brk=>exact q
 |cont=>exact q
theorem Inv.quiet{pins:List (Addr×Obj)}{σ:St}{H:Hp}{s:Shared}(I:Inv X pins σ H s):interactive X.env=false:=by simp[interactive,I.ok.kind]
def zX4(te:TE):TS:=λD σ H=>te σ H λ_ H1=>D.nx σ H1
theorem zKR(he:PE X e te)(hs:swapsWith e none pos.line X.env=pure false:=by rfl):PS X (.Expr e pos) (zX4 te):=by
 intro pins s σ H D I h
 exact wpAny_Expr_any (thn (he pins s σ H _ I h) λv s1 ⟨x,H1,I1,r1,q1⟩=>⟨σ,H1,I1,q1⟩) I.quiet hs
def yDH(te:TE):TS:=λD σ H=>te σ H D.rt
theorem zN7(he:PE X e te):PS X (.Return (some e) pos) (yDH te):=by
 intro pins s σ H D I h
 exact wpAny_Return_some (thn (he pins s σ H _ I h) λv s1 ⟨x,H1,I1,r1,q1⟩=>⟨x,σ,H1,I1,r1,q1⟩)
def yCH(c:TT)(t u:TS):TS:=λD σ H=>c σ H λb H1=>if b=true then t D σ H1 else u D σ H1
theorem zX5{c:Expr}{a b:List Stmt}{tc:TT}(hc:PT X c tc)(ha:PSs X a t)(hb:PSs X b u):PS X (.If c a b pos) (yCH tc t u):=by
 intro pins s σ H D I h
 refine wpAny_If (thn (hc pins s σ H _ I h) λd s1 ⟨H1,I1,q1⟩=>?_)
 cases d with
 |true=>exact ha pins s1 σ H1 D I1 q1
 |false=>exact hb pins s1 σ H1 D I1 q1
def zX6:TS:=λ_ _ _=>False
theorem ps_never:PS X st zX6:=λ_ _ _ _ _ _ h=>h.elim
end
abbrev TG:=V->St->Hp->(St->Hp->Prop)->Prop
abbrev TGs:=List V->St->Hp->(St->Hp->Prop)->Prop
def PG(X:Cx)(target:Expr)(t:TG):Prop :=
 ∀(pins:List (Addr×Obj)) (s:Shared) (σ:St) (H:Hp) (v:V) (u:Value) (Q:St->Hp->Prop),Inv X pins σ H s->RelV v u->t v σ H Q ->
  wpAny (model X.prog X.w) X.A (assign target X.env u) (λ_ s'=>∃σ' H',Inv X pins σ' H' s'/\Q σ' H') X.xe s
def PGs(X:Cx)(ts:List Expr)(t:TGs):Prop :=
 ∀(pins:List (Addr×Obj)) (s:Shared) (σ:St) (H:Hp) (vs:List V) (us:List Value) (Q:St->Hp->Prop),Inv X pins σ H s->Vals vs us->t vs σ H Q ->
  wpAny (model X.prog X.w) X.A (assignInOrder ((assignEach ts X.env).map (·.2)) us) (λ_ s'=>∃σ' H',Inv X pins σ' H' s'/\Q σ' H') X.xe s
abbrev yA5:=V->V->V->Hp->(Hp->Prop)->Prop
def yCI(X:Cx)(t:yA5):Prop :=
 ∀(pins:List (Addr×Obj)) (s:Shared) (σ:St) (H:Hp) (o i v:V) (ov iv u:Value) (Q:Hp->Prop),Inv X pins σ H s->RelV o ov->RelV i iv->RelV v u->t o i v H Q ->
  wpAny (model X.prog X.w) X.A (setItem ov iv u) (λ_ s'=>∃H',Inv X pins σ H' s'/\Q H') X.xe s
section
variable{X:Cx}{pos:Pos}
def zF6(i:Nat):TG:=λv σ H Q=>Q (σ.set i (some v)) H
theorem zCX{i:Nat}{x:Str}(hN:X.N.Nodup)(hi:X.N[i]?=some x)(hx:Loc X.env.scope x)(hf:X.fn x=true\/X.env.scope.names.lookup x=some .local:=by first|exact .inl rfl|exact .inr rfl|assumption):PG X (.Name x pos) (zF6 i):=by
 intro pins s σ H v u Q I r h
 exact wpAny_assign_Name (zL3 I hN hi hx r (λs' I'=>⟨_,H,I',h⟩) hf)
def yDI:TGs:=λvs σ H Q=>vs=[]/\Q σ H
def yA6(t:TG)(u:TGs):TGs:=λvs σ H Q=>∃v r,vs=v::r/\t v σ H λσ' H'=>u r σ' H' Q
theorem pgs_nil:PGs X [] yDI:=by
 intro pins s σ H vs us Q I r h
 obtain⟨e,h⟩:=h
 subst e
 cases r
 exact assignInOrder_nil ⟨σ,H,I,h⟩
theorem zD1{e:Expr}{es:List Expr}{t:TG}{u:TGs}(h1:PG X e t)(h2:PGs X es u)
  (hs:(assignEach (e::es) X.env).map (·.2)=assign e X.env::(assignEach es X.env).map (·.2):=by rfl):PGs X (e::es) (yA6 t u):=by
 intro pins s σ H vs us Q I r h
 obtain⟨v,vr,e1,h⟩:=h
 subst e1
 cases r with
 |cons r rr =>
  rw[hs]
  refine assignInOrder_cons (thn (h1 pins s σ H _ _ _ I r h) λ_ s1 ⟨σ1,H1,I1,q1⟩=>?_)
  exact h2 pins s1 σ1 H1 _ _ Q I1 rr q1
def yDJ(K:PySem.W.Frag)(n:Nat)(t:TGs):TG:=λv σ H Q=>∃a xs,v=.ref a/\SqT K H a xs/\xs.length=n/\t xs σ H Q
theorem zN8{es:List Expr}{k:Nat}{t:TGs}{n:Nat}(hc:X.calm=true)(h:PGs X es t)
  (hn:(assignEach es X.env).length=n:=by rfl) (hst:(assignEach es X.env).findIdx? (·.1)=none:=by rfl):PG X (.Tuple es k pos) (yDJ X.K n t):=by
 intro pins s σ H v u Q I r hw
 obtain⟨a,xs,e1,hq,hl,hw⟩:=hw
 subst e1
 cases r
 obtain⟨its,rv,ht,hz⟩:=I.tuple hq
 refine assign_Tuple_tuple (I.ok.hd hc) ht (by simp[hn,<-hl,rv.length]) hst λh' hx=>?_
 have I1:Inv X pins σ H { s with heap:=h' }:=I.kept (t':=s.toks) λb o e=>hx b o (Nat.ne_of_lt (Heap.lt_size e)) e
 exact h pins _ σ H xs _ Q I1 (by simpa using rv) hw
def yDK(to ti:TE)(t:yA5):TG:=λv σ H Q=>to σ H λo H1=>ti σ H1 λi H2=>t o i v H2 λH3=>Q σ H3
theorem zX7{o i:Expr}{to ti:TE}{t:yA5}(ho:PE X o to)(hi:PE X i ti)(hs:yCI X t)
  (ha:∀v,assign (.Subscript o i pos) X.env v=(do
   let ov <-holding [v] (eval o X.env)
   let iv <-holding [v,ov] (eval i X.env)
   standAt pos
   holding [v,ov,iv] (setItem ov iv v)
   release [v,ov,iv] []):=by intro _;rfl):PG X (.Subscript o i pos) (yDK to ti t):=by
 intro pins s σ H v u Q I r h
 rw[ha]
 refine wpAny_bind (wpAny_holding (thn (ho pins s σ H _ I h) λov s1 ⟨x,H1,I1,r1,q1⟩=>?_))
 refine wpAny_bind (wpAny_holding (thn (hi pins s1 σ H1 _ I1 q1) λiv s2 ⟨y,H2,I2,r2,q2⟩=>?_))
 refine wpAny_bind (wpAny_standAt (wpAny_bind (wpAny_holding (thn (hs pins s2 σ H2 x y v ov iv u _ I2 r1 r2 r q2) λ_ s3 ⟨H3,I3,q3⟩=>?_))))
 exact wpAny_release ⟨σ,H3,I3,q3⟩
def zXO(te:TE)(g:TG):TS:=λD σ H=>te σ H λx H1=>g x σ H1 D.nx
theorem zN9{tg e:Expr}{te:TE}{g:TG}(he:PE X e te)(hg:PG X tg g)(hs:swapsWithSole [tg] e pos.line X.env=pure false:=by rfl)(hw:swappedStores [tg] e X.env=pure none:=by rfl)
  (h1:(assignEach [tg] X.env).map (·.2)=[assign tg X.env]:=by rfl):PS X (.Assign [tg] e pos) (zXO te g):=by
 intro pins s σ H D I h
 refine wpAny_Assign_stores (thn (he pins s σ H _ I h) λv s1 ⟨x,H1,I1,r1,q1⟩=>?_) hs hw
 rw[h1]
 exact thn (hg pins s1 σ H1 x v _ I1 r1 q1) λ_ s2 q=>q
theorem zOA{i:Nat}{x:Str}{e:Expr}{te:TE}{pos':Pos}(hN:X.N.Nodup)(hi:X.N[i]?=some x)(hx:Loc X.env.scope x)(he:PE X e te)(hs:swapsWith e (some (.Name x pos')) pos.line X.env=pure false:=by rfl)(hf:X.fn x=true\/X.env.scope.names.lookup x=some .local:=by first|exact .inl rfl|exact .inr rfl|assumption) :
  PS X (.Assign [.Name x pos'] e pos) (zXO te (zF6 i)):=by
 intro pins s σ H D I h
 refine wpAny_Assign_Name (thn (he pins s σ H _ I h) λv s1 ⟨y,H1,I1,r1,q1⟩=>?_) hs
 exact zL3 I1 hN hi hx r1 (λs2 I2=>⟨_,H1,I2,q1⟩) hf
end
section
variable{X:Cx}{pos:Pos}
def zX8(c:TT)(tb:TS):TS:=λD σ H=>∃W:Nat->St->Hp->Prop,(∃m,W m σ H)/\∀m σ H,W m σ H ->
 c σ H λb H1=>if b=true then ∃N:St->Hp->Prop,(∀σ' H',N σ' H'->∃m',m'<m/\W m' σ' H')/\tb { D with nx:=N,ct:=N,bk:=D.nx } σ H1 else D.nx σ H1
theorem zRF{c:Expr}{body:List Stmt}{tc:TT}{tb:TS}(hp:PassesOwn (model X.prog X.w) X.A X.env X.xe)(hc:PT X c tc)(hb:PSs X body tb):PS X (.While c body [] pos) (zX8 tc tb):=by
 intro pins s σ H D I h
 obtain⟨W,⟨m0,w0⟩,turn⟩:=h
 refine wpAny_While (codeAny_whileLoop (λn s'=>∃σ' H',Inv X pins σ' H' s'/\W n σ' H') ?_ m0 ⟨σ,H,I,w0⟩)
 rintro n s1 ⟨σ1,H1,I1,w1⟩
 refine wpAny_passesOwn hp (thn (hc pins s1 σ1 H1 _ I1 (turn n σ1 H1 w1)) λb s2 ⟨H2,I2,q2⟩=>?_)
 cases b with
 |true =>
  obtain⟨N,hN,q2⟩:=q2
  rw[if_pos rfl]
  refine wpAny_passesOwn hp (thn (hb pins s2 σ1 H2 _ I2 q2) λf s3 q3=>?_)
  cases f with
  |next =>
   obtain⟨σ3,H3,I3,n3⟩:=q3
   obtain⟨m',hm,w3⟩:=hN σ3 H3 n3
   exact⟨m',hm,σ3,H3,I3,w3⟩
  |cont =>
   obtain⟨σ3,H3,I3,n3⟩:=q3
   obtain⟨m',hm,w3⟩:=hN σ3 H3 n3
   exact⟨m',hm,σ3,H3,I3,w3⟩
  |brk=>exact q3
  |ret v=>exact q3
 |false =>
  rw[if_neg Bool.false_ne_true]
  exact wpAny_execs_nil ⟨σ1,H2,I2,q2⟩
end
structure It where
 go:Nat->Hp->Prop
 yld:Nat->Hp->V->Hp->Prop
 stop:Nat->Hp->Prop
def FpOk(X:Cx)(pins:List (Addr×Obj))(H:Hp)(b:Addr):Prop :=
 H b=none/\b≠X.env.locals/\b∉X.fs/\(b∈X.ex\/X.s₀.heap.objs.size<=b)/\(∀x c,X.env.cells.lookup x=some c->c≠b)/\∀p∈X.pn++pins,p.1≠b
theorem Inv.fpOk{X:Cx}{pins:List (Addr×Obj)}{σ:St}{H H':Hp}{s:Shared}{b:Addr}(I:Inv X pins σ H s)(hb:s.heap.objs.size<=b)(hn:H' b=none):FpOk X pins H' b:=by
 refine⟨hn,Nat.ne_of_gt (Nat.lt_of_lt_of_le I.lt hb),I.nofs hb,.inr (Nat.le_trans I.sz hb),λx c e z=>?_,λp hp z=>?_⟩
 ·obtain⟨v,q⟩:=I.cell x c e
  exact absurd (Nat.lt_of_lt_of_le q.lt (by rw[z];exact hb)) (Nat.lt_irrefl _)
 ·exact absurd (Nat.lt_of_lt_of_le (Heap.lt_size (I.pin p hp).1) (by rw[z];exact hb)) (Nat.lt_irrefl _)
structure Turn(P:Program)(w:World)(K:PySem.W.Frag)(tg:Expr)(J:It)(fp:List Addr)(it:Addr)(tn:Nat->Heap->Prop):Prop where
 mem:it∈fp
 obj:∀i h,tn i h->∀b∈fp,∃o,h.get? b=some o/\∀v,o.data≠.cell v
 keep:∀i h h',tn i h->(∀b∈fp,∀o,h.get? b=some o->h'.get? b=some o)->tn i h'
 item:∀(X:Cx),X.prog=P->X.w=w->X.K=K->X.calm=true->∀(i:Nat) (pins:List (Addr×Obj)) (s:Shared) (σ:St) (H:Hp) (E:Value->Shared->Prop),Inv X pins σ H s->(∀b∈fp,FpOk X pins H b)->tn i s.heap->J.go i H ->
  wpAny (model P w) X.A (pyNext (.ref it)) (λr s1=>∃u,r=some u /\
   wpAny (model P w) X.A (letOwnedTupleGo tg (.ref it) u) (λ_ s2=>∃x H',Inv X pins σ H' s2/\RelV x u/\J.yld i H x H'/\tn (i+1) s2.heap/\∀b∈fp,H' b=none) E s1) E s
 done:∀(X:Cx),X.prog=P->X.w=w->X.K=K->X.calm=true->∀(i:Nat) (pins:List (Addr×Obj)) (s:Shared) (σ:St) (H:Hp) (E:Value->Shared->Prop),Inv X pins σ H s->(∀b∈fp,FpOk X pins H b)->tn i s.heap->J.stop i H ->
  wpAny (model P w) X.A (pyNext (.ref it)) (λr s1=>r=none/\Inv X pins σ H s1) E s
 self:∀(A:Around) (i:Nat) (s:Shared) (Q:Value->Shared->Prop) (E:Value->Shared->Prop),tn i s.heap->Q (.ref it) s->wpAny (model P w) A (pyIter (.ref it)) Q E s
abbrev TI:=St->Hp->(It->Hp->Prop)->Prop
def PIE(X:Cx)(pins:List (Addr×Obj))(σ:St)(tg:Expr)(R:It->Hp->Prop)(itv:Value)(s2:Shared):Prop :=
 ∃(it:Addr) (fp:List Addr) (tn:Nat->Heap->Prop) (J:It) (H':Hp),itv=.ref it/\Inv X pins σ H' s2/\Turn X.prog X.w X.K tg J fp it tn/\tn 0 s2.heap/\(∀b∈fp,FpOk X pins H' b)/\R J H'
def PI(X:Cx)(tg iter:Expr)(wi:TI):Prop :=
 ∀(pins:List (Addr×Obj)) (s:Shared) (σ:St) (H:Hp) (R:It->Hp->Prop),Inv X pins σ H s->wi σ H R ->
  wpAny (model X.prog X.w) X.A (eval iter X.env) (λv s1=>wpAny (model X.prog X.w) X.A (pyIter v) (PIE X pins σ tg R) X.xe s1) X.xe s
theorem zOB {M : Model} {A : Around} {E : Value → Shared → Prop} {s : Shared} {tg : Expr} {it : Addr} {u : Value} {o : Obj} {n : String} {vs : Array Value} {Q : Unit → Shared → Prop} (ho : s.heap.get? it = some o) (hc : o.cls = .type n) (hd : o.data = .fields vs)
    (hn : ["enumerate", "zip", "dict_itemiterator", "dict_reverseitemiterator", "odict_iterator", "itertools.zip_longest", "itertools.pairwise"].contains n = false) (hQ : Q () s) : wpAny M A (letOwnedTupleGo tg (.ref it) u) Q E s := by
  unfold letOwnedTupleGo
  cases tg <;> first
    | exact wpAny_pure hQ
    | (cases u <;> first
        | exact wpAny_pure hQ
        | (refine wpAny_bind (wpAny_load ho ?_)
           rw [hc, hd]
           show wpAny M A (if (["enumerate", "zip", "dict_itemiterator", "dict_reverseitemiterator", "odict_iterator", "itertools.zip_longest", "itertools.pairwise"].contains n && vs[0]? == some (rawInt _)) = true then _ else _) Q E s
           rw [if_neg (by intro h; rw [hn, Bool.false_and] at h; cases h)]
           exact wpAny_pure hQ))
noncomputable def Itl(K:PySem.W.Frag)(a:Addr):It :=
 ⟨λi H=>∃xs x,SqL K H a xs/\xs[i]?=some x,λi H x H'=>H'=H/\∀xs,SqL K H a xs->xs[i]?=some x,λi H=>∃xs,SqL K H a xs/\xs.length<=i⟩
noncomputable def Itt(K:PySem.W.Frag)(a:Addr):It :=
 ⟨λi H=>∃xs x,SqT K H a xs/\xs[i]?=some x,λi H x H'=>H'=H/\∀xs,SqT K H a xs->xs[i]?=some x,λi H=>∃xs,SqT K H a xs/\xs.length<=i⟩
noncomputable def Itr(lo:Int)(n:Nat):It:=⟨λi _=>i<n,λi H x H'=>H'=H/\x=.int (lo+i),λi _=>n<=i⟩
theorem zOC{P:Program}{w:World}{K:PySem.W.Frag}{tg:Expr}(a it:Addr):Turn P w K tg (Itl K a) [it] it (λi h=>h.IsListIter it a i) where
 mem:=by simp
 obj:=λi h st b hb=>by
  have e:b=it:=by simpa using hb
  subst e
  obtain⟨o,e,c,d⟩:=st
  exact⟨o,e,λv z=>by rw[d] at z;cases z⟩
 keep:=λi h h' st k=>st.at λo e=>k it (by simp) o e
 item:=by
  intro X hP hw hK hc i pins s σ H E I hf st hg
  subst hP hw hK
  obtain⟨xs,x,hq,hx⟩:=hg
  obtain⟨its,rv,p,hz⟩:=I.list hq
  obtain⟨u,hu,ru⟩:=rv.get hx
  obtain⟨f0,f1,f2,f3,f4,f5⟩:=hf it (by simp)
  refine wpAny_pyNext_list_item st p.isList (x:=u) (by simpa using hu) λh' st' sb=>?_
  have I1:Inv X pins σ H { s with heap:=h' }:=I.turned (t':=s.toks) (λb o hb e=>(sb.2 b hb).trans e) f0 f1 f3 f4 f5
  obtain⟨o,e,c,d⟩:=id st'
  exact⟨u,rfl,zOB (s:={ s with heap:=h' }) e c d (by decide) ⟨x,H,I1,ru,⟨rfl,λys hy=>by rw[I.list_inj hy hq];exact hx⟩,st',λb hb=>(hf b hb).1⟩⟩
 done:=by
  intro X hP hw hK hc i pins s σ H E I hf st hg
  subst hP hw hK
  obtain⟨xs,hq,hx⟩:=hg
  obtain⟨its,rv,p,hz⟩:=I.list hq
  obtain⟨f0,f1,f2,f3,f4,f5⟩:=hf it (by simp)
  have hl:=rv.length
  exact wpAny_pyNext_list_end (I.ok.hd hc) st p.isList (by simp;lia) λh' eb=>⟨rfl,I.turned (t':=s.toks) (λb o hb e=>eb b o hb e) f0 f1 f3 f4 f5⟩
 self:=λ_ _ _ _ _ st h=>wpAny_pyIter_listiter st h
theorem zM7{P:Program}{w:World}{K:PySem.W.Frag}{tg:Expr}(a it:Addr):Turn P w K tg (Itt K a) [it] it (λi h=>h.IsTupleIter it a i) where
 mem:=by simp
 obj:=λi h st b hb=>by
  have e:b=it:=by simpa using hb
  subst e
  obtain⟨o,e,c,d⟩:=st
  exact⟨o,e,λv z=>by rw[d] at z;cases z⟩
 keep:=λi h h' st k=>st.at λo e=>k it (by simp) o e
 item:=by
  intro X hP hw hK hc i pins s σ H E I hf st hg
  subst hP hw hK
  obtain⟨xs,x,hq,hx⟩:=hg
  obtain⟨its,rv,p,hz⟩:=I.tuple hq
  obtain⟨u,hu,ru⟩:=rv.get hx
  obtain⟨f0,f1,f2,f3,f4,f5⟩:=hf it (by simp)
  refine wpAny_pyNext_tuple_item st (show s.heap.IsTuple a its.toArray from p) (x:=u) (by simpa using hu) λh' st' sb=>?_
  have I1:Inv X pins σ H { s with heap:=h' }:=I.turned (t':=s.toks) (λb o hb e=>(sb.2 b hb).trans e) f0 f1 f3 f4 f5
  obtain⟨o,e,c,d⟩:=id st'
  exact⟨u,rfl,zOB (s:={ s with heap:=h' }) e c d (by decide) ⟨x,H,I1,ru,⟨rfl,λys hy=>by rw[I.tuple_inj hy hq];exact hx⟩,st',λb hb=>(hf b hb).1⟩⟩
 done:=by
  intro X hP hw hK hc i pins s σ H E I hf st hg
  subst hP hw hK
  obtain⟨xs,hq,hx⟩:=hg
  obtain⟨its,rv,p,hz⟩:=I.tuple hq
  obtain⟨f0,f1,f2,f3,f4,f5⟩:=hf it (by simp)
  have hl:=rv.length
  exact wpAny_pyNext_tuple_end (I.ok.hd hc) st (show s.heap.IsTuple a its.toArray from p) (by simp;lia) λh' eb=>⟨rfl,I.turned (t':=s.toks) (λb o hb e=>eb b o hb e) f0 f1 f3 f4 f5⟩
 self:=λ_ _ _ _ _ st h=>wpAny_pyIter_tupleiter st h
theorem zM8{P:Program}{w:World}{K:PySem.W.Frag}{tg:Expr}(it:Addr)(lo:Int)(n:Nat):Turn P w K tg (Itr lo n) [it] it (λi h=>IsRangeIter h it (lo+(i:Nat) * 1) ((n:Int)-(i:Nat)) 1) where
 mem:=by simp
 obj:=λi h st b hb=>by
  have e:b=it:=by simpa using hb
  subst e
  exact⟨_,st,λv z=>by
   have z':Data.fields _=Data.cell v:=z
   cases z'⟩
 keep:=λi h h' st k=>k it (by simp) _ st
 item:=by
  intro X hP hw hK hc i pins s σ H E I hf st hg
  subst hP hw hK
  obtain⟨f0,f1,f2,f3,f4,f5⟩:=hf it (by simp)
  have W:=Walks.range (prog:=X.prog) (w:=X.w) (I.ok.hd hc) it lo 1 n
  refine W.item i s _ _ hg st λv h' tk hv st' kk=>?_
  obtain⟨t,rfl⟩:=hv
  have I1:Inv X pins σ H { s with heap:=h',toks:=tk }:=I.turned (λb o hb e=>kk b o (by simpa using hb) e) f0 f1 f3 f4 f5
  refine⟨_,rfl,zOB (s:={ s with heap:=h',toks:=tk }) (n:="range_iterator") st' rfl rfl (by decide) ⟨.int (lo+i),H,I1,⟨t,?_⟩,⟨rfl,rfl⟩,st',λb hb=>(hf b hb).1⟩⟩
  rw[Int.mul_one]
 done:=by
  intro X hP hw hK hc i pins s σ H E I hf st hg
  subst hP hw hK
  obtain⟨f0,f1,f2,f3,f4,f5⟩:=hf it (by simp)
  exact wpAny_pyNext_range_end (I.ok.hd hc) st (by have:n<=i:=hg;lia) λh' eb=>⟨rfl,I.turned (t':=s.toks) (λb o hb e=>eb b o hb e) f0 f1 f3 f4 f5⟩
 self:=λ_ _ _ _ _ st h=>wpAny_pyIter_rangeiter st h
section
variable{X:Cx}{tg:Expr}
def yA7(K:PySem.W.Frag)(tl:TE):TI:=λσ H R=>tl σ H λx H1=>∃a,x=.ref a/\(∃xs,SqL K H1 a xs)/\R (Itl K a) H1
def yDL(K:PySem.W.Frag)(tl:TE):TI:=λσ H R=>tl σ H λx H1=>∃a,x=.ref a/\(∃xs,SqT K H1 a xs)/\R (Itt K a) H1
theorem zOD{l:Expr}{tl:TE}(hl:PE X l tl):PI X tg l (yA7 X.K tl):=by
 intro pins s σ H R I h
 refine thn (hl pins s σ H _ I h) λv s1 ⟨x,H1,I1,r1,q1⟩=>?_
 obtain⟨a,e,⟨xs,hq⟩,q⟩:=q1
 subst e
 cases r1
 obtain⟨its,rv,p,hz⟩:=I1.list hq
 refine wpAny_pyIter_list p.isList ?_
 refine⟨s1.heap.objs.size,[s1.heap.objs.size],_,_,H1,rfl,I1.kept (t':=s1.toks) λb o e=>Heap.get?_push_of_some _ e,zOC a _,⟨_,Heap.get?_push_size _ rfl,rfl,rfl⟩,λb hb=>?_,q⟩
 have e:b=s1.heap.objs.size:=by simpa using hb
 subst e
 exact I1.fpOk (Nat.le_refl _) (I1.hok.fresh (Nat.le_refl _))
theorem zTU{l:Expr}{tl:TE}(hl:PE X l tl):PI X tg l (yDL X.K tl):=by
 intro pins s σ H R I h
 refine thn (hl pins s σ H _ I h) λv s1 ⟨x,H1,I1,r1,q1⟩=>?_
 obtain⟨a,e,⟨xs,hq⟩,q⟩:=q1
 subst e
 cases r1
 obtain⟨its,rv,p,hz⟩:=I1.tuple hq
 refine wpAny_pyIter_tuple (show s1.heap.IsTuple a its.toArray from p) ?_
 refine⟨s1.heap.objs.size,[s1.heap.objs.size],_,_,H1,rfl,I1.kept (t':=s1.toks) λb o e=>Heap.get?_push_of_some _ e,zM7 a _,⟨_,Heap.get?_push_size _ rfl,rfl,rfl⟩,λb hb=>?_,q⟩
 have e:b=s1.heap.objs.size:=by simpa using hb
 subst e
 exact I1.fpOk (Nat.le_refl _) (I1.hok.fresh (Nat.le_refl _))
theorem zL4{pins:List (Addr×Obj)}{σ:St}{H:Hp}{s:Shared}{R:It->Hp->Prop}{E:Value->Shared->Prop}{lo hi:Int}{t u v:Tok}{tk:Nat}(I:Inv X pins σ H s)(h1:-(2 ^ 62)<=lo)(h2:lo<2 ^ 62)(h3:-(2 ^ 62)<=hi)(h4:hi<2 ^ 62)
  (q:R (Itr lo (hi-lo).toNat) H):wpAny (model X.prog X.w) X.A (pyIter (.ref s.heap.objs.size)) (PIE X pins σ tg R) E { s with heap:=s.heap.push { cls:=.type "range",data:=.fields #[.int lo t,.int hi u,.int 1 v] },toks:=tk }:=by
 refine wpAny_pyIter_range (IsRange.new ..) (small_one h1 h2 h3 h4) ?_
 have I1:Inv X pins σ H { s with heap:=s.heap.push { cls:=.type "range",data:=.fields #[.int lo t,.int hi u,.int 1 v] },toks:=tk }:=I.kept λb o e=>Heap.get?_push_of_some _ e
 refine⟨(s.heap.push { cls:=.type "range",data:=.fields #[.int lo t,.int hi u,.int 1 v] }).objs.size,[(s.heap.push { cls:=.type "range",data:=.fields #[.int lo t,.int hi u,.int 1 v] }).objs.size],_,_,H,rfl,
  I1.kept (t':=tk) λb o e=>Heap.get?_push_of_some _ e,zM8 _ lo (hi-lo).toNat,?_,λb hb=>?_,q⟩
 ·have e1:lo+((0:Nat):Int) * 1=lo:=by simp
  have e2:(((hi-lo).toNat:Nat):Int)-((0:Nat):Int)=Builtin.Range.rangeSize lo hi 1:=by rw[rangeSize_one];split<;>lia
  show IsRangeIter _ _ (lo+((0:Nat):Int) * 1) ((((hi-lo).toNat:Nat):Int)-((0:Nat):Int)) 1
  rw[e1,e2]
  exact Heap.get?_push_size _ rfl
 ·have e:b=(s.heap.push { cls:=.type "range",data:=.fields #[.int lo t,.int hi u,.int 1 v] }).objs.size:=by simpa using hb
  subst e
  exact I1.fpOk (Nat.le_refl _) (I1.hok.fresh (Nat.le_refl _))
def yA8(ta:TA):TI:=λσ H R=>ta σ H λvs H1=>∃j:Int,vs=[.int j]/\-(2 ^ 62)<=j/\j<2 ^ 62/\R (Itr 0 j.toNat) H1
def yA9(ta:TA):TI:=λσ H R=>ta σ H λvs H1=>∃i j:Int,vs=[.int i,.int j]/\(-(2 ^ 62)<=i/\i<2 ^ 62/\-(2 ^ 62)<=j/\j<2 ^ 62)/\R (Itr i (j-i).toNat) H1
theorem zIT{a:Expr}{ta:TA}{p pos:Pos}(hg:Gl X "range")(hm:X.mg "range"=none)(ha:PA X [a] ta)(hs:starEach [a] X.env=[(false,eval a X.env)]:=by rfl):PI X tg (.Call (.Name "range" p) [a] [] pos) (yA8 ta):=by
 intro pins s σ H R I h
 refine Call_ (zFG I hg hm boot_range (PyProof.Rows.callWith_type1 (thn (ha pos pins s σ H _ I h) λus s1 ⟨vs,H1,I1,r1,q1⟩=>?_) hs rfl))
 obtain⟨j,e,q1,q2,q⟩:=q1
 subst e
 cases r1 with
 |cons r rr =>
  cases rr
  obtain⟨t,rfl⟩:=r
  exact call_range_1 (zL4 I1 (by lia) (by lia) q1 q2 (by simpa using q))
theorem zOE{a b:Expr}{ta:TA}{p pos:Pos}(hg:Gl X "range")(hm:X.mg "range"=none)(ha:PA X [a,b] ta)(hs:starEach [a,b] X.env=[(false,eval a X.env),(false,eval b X.env)]:=by rfl)(hs2:starEach [b] X.env=[(false,eval b X.env)]:=by rfl) :
  PI X tg (.Call (.Name "range" p) [a,b] [] pos) (yA9 ta):=by
 intro pins s σ H R I h
 refine Call_ (zFG I hg hm boot_range (PyProof.Rows.callWith_type1 (thn (ha pos pins s σ H _ I h) λus s1 ⟨vs,H1,I1,r1,q1⟩=>?_) (by rw[hs,hs2]) (by rw[hs2];rfl)))
 obtain⟨i,j,e,⟨q1,q2,q3,q4⟩,q⟩:=q1
 subst e
 cases r1 with
 |cons r rr =>
  cases rr with
  |cons r' rr =>
   cases rr
   obtain⟨t,rfl⟩:=r
   obtain⟨t',rfl⟩:=r'
   exact call_range_2 (zL4 I1 q1 q2 q3 q4 q)
def yAO(wi:TI)(g:TG)(tb:TS):TS:=λD σ H=>wi σ H λJ H1=>∃W:Nat->Nat->St->Hp->Prop,(∃m,W 0 m σ H1)/\∀i m σ H,W i m σ H ->
 (J.stop i H/\D.nx σ H)\/(J.go i H/\∃N:St->Hp->Prop,(∀σ' H',N σ' H'->∃m',m'<m/\W (i+1) m' σ' H')/\∀x H',J.yld i H x H'->g x σ H' λσ2 H2=>tb { D with nx:=N,ct:=N,bk:=D.nx } σ2 H2)
noncomputable def zIU(fp:List Addr)(h:Heap):List (Addr×Obj):=fp.filterMap λb=>(h.get? b).map λo=>(b,o)
theorem zDJ{fp:List Addr}{h:Heap}{b:Addr}{o:Obj}(hb:b∈fp)(e:h.get? b=some o):(b,o)∈zIU fp h:=List.mem_filterMap.mpr ⟨b,hb,by rw[e];rfl⟩
theorem zOF{fp:List Addr}{h:Heap}{p:Addr×Obj}(hp:p∈zIU fp h):p.1∈fp/\h.get? p.1=some p.2:=by
 obtain⟨b,hb,e⟩:=List.mem_filterMap.mp hp
 cases q:h.get? b with
 |none=>rw[q] at e;cases e
 |some o =>
  rw[q] at e
  have e':(b,o)=p:=Option.some.inj e
  subst e'
  exact⟨hb,q⟩
theorem Inv.pinned{pins:List (Addr×Obj)}{σ:St}{H:Hp}{s:Shared}{fp:List Addr}(I:Inv X pins σ H s)(hf:∀b∈fp,FpOk X pins H b)(ho:∀b∈fp,∃o,s.heap.get? b=some o/\∀v,o.data≠.cell v):Inv X (pins++zIU fp s.heap) σ H s :=
 I.pins_of λp hp=>(List.mem_append.mp hp).elim (λz=>I.pin p (List.mem_append_right _ z)) λz=>by
  obtain⟨hb,e⟩:=zOF z
  obtain⟨f0,f1,f2,_⟩:=hf p.1 hb
  obtain⟨o,e',d⟩:=ho p.1 hb
  rw[e] at e';cases e'
  exact⟨e,f0,f1,f2,d⟩
theorem Inv.unpinned{pins pl:List (Addr×Obj)}{σ:St}{H:Hp}{s:Shared}(I:Inv X (pins++pl) σ H s):Inv X pins σ H s:=I.pins_of λp hp=>I.pin p (List.mem_append_right _ (List.mem_append_left _ hp))
theorem zGI{iter:Expr}{body:List Stmt}{wi:TI}{g:TG}{tb:TS}{pos:Pos}(hp:PassesOwn (model X.prog X.w) X.A X.env X.xe)(hc:X.calm=true)(hi:PI X tg iter wi)(hg:PG X tg g)(hb:PSs X body tb)
  (hs:∀x,foldedSetIterable iter X.env x=pure x:=by intro _;rfl):PS X (.For tg iter body [] pos) (yAO wi g tb):=by
 intro pins s σ H D I h
 refine wpAny_For (thn (hi pins s σ H _ I h) λv s1 h1=>thn h1 λitv s2 h2=>?_) hs
 obtain⟨it,fp,tn,J,H2,e,I2,T,st2,f2,W,⟨m0,w0⟩,turn⟩:=h2
 subst e
 -- what stays true of the iterator's objects through the loop
 have stat:∀{H':Hp},(∀b∈fp,H' b=none)->∀b∈fp,FpOk X pins H' b:=λhn b hb=>⟨hn b hb,(f2 b hb).2⟩
 refine codeAny_forLoop_any (λn s'=>∃i σ' H',Inv X pins σ' H' s'/\tn i s'.heap/\(∀b∈fp,H' b=none)/\W i n σ' H') ?_ m0 ⟨0,σ,H2,I2,st2,λb hb=>(f2 b hb).1,w0⟩
 rintro n s3 ⟨i,σ3,H3,I3,st3,fr3,w3⟩
 rcases turn i n σ3 H3 w3 with⟨stop,qn⟩|⟨go,N,hN,step⟩
 ·refine wpAny_passesOwn hp (thn (T.done X rfl rfl rfl hc i pins s3 σ3 H3 X.xe I3 (stat fr3) st3 stop) λr s4 ⟨hr,I4⟩=>?_)
  subst hr
  exact wpAny_execs_nil ⟨σ3,H3,I4,qn⟩
 ·refine wpAny_passesOwn hp (thn (T.item X rfl rfl rfl hc i pins s3 σ3 H3 X.xe I3 (stat fr3) st3 go) λr s4 ⟨u,hr,h4⟩=>?_)
  subst hr
  refine wpAny_passesOwn hp (thn h4 λ_ s5 ⟨x,H5,I5,r5,y5,st5,fr5⟩=>?_)
  have I5':=I5.pinned (stat fr5) (T.obj _ _ st5)
  refine wpAny_passesOwn hp (thn (hg _ s5 σ3 H5 x u _ I5' r5 (step x H5 y5)) λ_ s6 ⟨σ6,H6,I6,q6⟩=>?_)
  refine wpAny_passesOwn hp (thn (hb _ s6 σ6 H6 _ I6 q6) λf s7 q7=>?_)
  have again:∀{σ7:St} {H7:Hp},Inv X (pins++zIU fp s5.heap) σ7 H7 s7->N σ7 H7->∃m,m<n/\∃i σ' H',Inv X pins σ' H' s7/\tn i s7.heap/\(∀b∈fp,H' b=none)/\W i m σ' H':=λ{σ7 H7} I7 n7=>by
   obtain⟨m',hm,w7⟩:=hN σ7 H7 n7
   refine⟨m',hm,i+1,σ7,H7,I7.unpinned,T.keep _ _ _ st5 λb hb o e=>(I7.pin (b,o) (List.mem_append_right _ (List.mem_append_right _ (zDJ hb e)))).1,λb hb=>?_,w7⟩
   obtain⟨o,e,d⟩:=T.obj _ _ st5 b hb
   exact(I7.pin (b,o) (List.mem_append_right _ (List.mem_append_right _ (zDJ hb e)))).2.1
  cases f with
  |next=>obtain⟨σ7,H7,I7,n7⟩:=q7;exact again I7 n7
  |cont=>obtain⟨σ7,H7,I7,n7⟩:=q7;exact again I7 n7
  |brk=>obtain⟨σ7,H7,I7,q7⟩:=q7;exact⟨σ7,H7,I7.unpinned,q7⟩
  |ret v=>obtain⟨x7,σ7,H7,I7,r7,q7⟩:=q7;exact⟨x7,σ7,H7,I7.unpinned,r7,q7⟩
end
theorem yAP{K:PySem.W.Frag}{a:Addr}{xs:List V}{g:TG}{tb:TS}{D:Ends}{σ:St}{H:Hp}(Pv:Nat->St->Hp->Prop)(h0:Pv 0 σ H)(hl:∀i σ H,i<=xs.length->Pv i σ H->SqL K H a xs)
  (hs:∀i x σ H,xs[i]?=some x->Pv i σ H->g x σ H λσ2 H2=>tb { D with nx:=Pv (i+1),ct:=Pv (i+1),bk:=D.nx } σ2 H2) (hd:∀σ H,Pv xs.length σ H->D.nx σ H) :
  ∃W:Nat->Nat->St->Hp->Prop,(∃m,W 0 m σ H)/\∀i m σ H,W i m σ H ->
   ((Itl K a).stop i H/\D.nx σ H)\/((Itl K a).go i H/\∃N:St->Hp->Prop,(∀σ' H',N σ' H'->∃m',m'<m/\W (i+1) m' σ' H')/\∀x H',(Itl K a).yld i H x H'->g x σ H' λσ2 H2=>tb { D with nx:=N,ct:=N,bk:=D.nx } σ2 H2):=by
 refine⟨λi m σ H=>m=xs.length-i/\i<=xs.length/\Pv i σ H,⟨xs.length,by simp,Nat.zero_le _,h0⟩,?_⟩
 rintro i m σ H ⟨rfl,hi,p⟩
 have q:=hl i σ H hi p
 by_cases hlt:i<xs.length
 ·refine .inr ⟨⟨xs,xs[i],q,by simp[hlt]⟩,Pv (i+1),λσ' H' p'=>⟨xs.length-(i+1),by lia,rfl,hlt,p'⟩,λx H' y=>?_⟩
  obtain⟨e,y⟩:=y
  subst e
  exact hs i x σ _ (y xs q) p
 ·have e:i=xs.length:=by lia
  subst e
  exact .inl ⟨⟨xs,q,Nat.le_refl _⟩,hd σ H p⟩
theorem zUX{K:PySem.W.Frag}{a:Addr}{xs:List V}{g:TG}{tb:TS}{D:Ends}{σ:St}{H:Hp}(Pv:Nat->St->Hp->Prop)(h0:Pv 0 σ H)(hl:∀i σ H,i<=xs.length->Pv i σ H->SqT K H a xs)
  (hs:∀i x σ H,xs[i]?=some x->Pv i σ H->g x σ H λσ2 H2=>tb { D with nx:=Pv (i+1),ct:=Pv (i+1),bk:=D.nx } σ2 H2) (hd:∀σ H,Pv xs.length σ H->D.nx σ H) :
  ∃W:Nat->Nat->St->Hp->Prop,(∃m,W 0 m σ H)/\∀i m σ H,W i m σ H ->
   ((Itt K a).stop i H/\D.nx σ H)\/((Itt K a).go i H/\∃N:St->Hp->Prop,(∀σ' H',N σ' H'->∃m',m'<m/\W (i+1) m' σ' H')/\∀x H',(Itt K a).yld i H x H'->g x σ H' λσ2 H2=>tb { D with nx:=N,ct:=N,bk:=D.nx } σ2 H2):=by
 refine⟨λi m σ H=>m=xs.length-i/\i<=xs.length/\Pv i σ H,⟨xs.length,by simp,Nat.zero_le _,h0⟩,?_⟩
 rintro i m σ H ⟨rfl,hi,p⟩
 have q:=hl i σ H hi p
 by_cases hlt:i<xs.length
 ·refine .inr ⟨⟨xs,xs[i],q,by simp[hlt]⟩,Pv (i+1),λσ' H' p'=>⟨xs.length-(i+1),by lia,rfl,hlt,p'⟩,λx H' y=>?_⟩
  obtain⟨e,y⟩:=y
  subst e
  exact hs i x σ _ (y xs q) p
 ·have e:i=xs.length:=by lia
  subst e
  exact .inl ⟨⟨xs,q,Nat.le_refl _⟩,hd σ H p⟩
abbrev R2:=V->V->Hp->VK->Prop
def OpR(X:Cx)(f:Value->Value->Sem Value)(r:R2):Prop :=
 ∀(pins:List (Addr×Obj)) (s:Shared) (σ:St) (H:Hp) (x y:V) (v u:Value) (Q:VK),Inv X pins σ H s->RelV x v->RelV y u->r x y H Q ->
  wpAny (model X.prog X.w) X.A (f v u) (EP X pins σ Q) X.xe s
def UnR(X:Cx)(f:Value->Sem Value)(r:V->Hp->VK->Prop):Prop :=
 ∀(pins:List (Addr×Obj)) (s:Shared) (σ:St) (H:Hp) (x:V) (v:Value) (Q:VK),Inv X pins σ H s->RelV x v->r x H Q ->
  wpAny (model X.prog X.w) X.A (f v) (EP X pins σ Q) X.xe s
def CallR(X:Cx)(f:Value)(r:List V->Hp->VK->Prop):Prop :=
 ∀(pins:List (Addr×Obj)) (s:Shared) (σ:St) (H:Hp) (xs:List V) (us:List Value) (Q:VK),Inv X pins σ H s->Vals xs us->r xs H Q ->
  wpAny (model X.prog X.w) X.A (call f us) (EP X pins σ Q) X.xe s
def yDM(X:Cx)(r:V->Hp->(Bool->Hp->Prop)->Prop):Prop :=
 ∀(pins:List (Addr×Obj)) (s:Shared) (σ:St) (H:Hp) (x:V) (v:Value) (Q:Bool->Hp->Prop),Inv X pins σ H s->RelV x v->r x H Q ->
  wpAny (model X.prog X.w) X.A (truthy v) (TP X pins σ Q) X.xe s
def tOp(r:R2)(ta tb:TE):TE:=λσ H Q=>ta σ H λx H1=>tb σ H1 λy H2=>r x y H2 Q
def tUn(r:V->Hp->VK->Prop)(ta:TE):TE:=λσ H Q=>ta σ H λx H1=>r x H1 Q
def rI(C:Int->Int->Prop)(g:Int->Int->V):R2:=λx y H Q=>∃i j,x=.int i/\y=.int j/\C i j/\Q (g i j) H
def rI0(g:Int->Int->V):R2:=λx y H Q=>∃i j,x=.int i/\y=.int j/\Q (g i j) H
def rU(g:Int->V):V->Hp->VK->Prop:=λx H Q=>∃i,x=.int i/\Q (g i) H
section
variable{X:Cx}{a b c:Expr}{ta tb tc:TE}{pos:Pos}
theorem yBA(ha:PE X a ta)(hb:PE X b tb){pins:List (Addr×Obj)}{s:Shared}{σ:St}{H:Hp}{R:V->V->Hp->Prop}(I:Inv X pins σ H s)
  (h:ta σ H λx H1=>tb σ H1 λy H2=>R x y H2) {Q:Value->Shared->Prop} {f:Value->Value->Sem Value}
  (hf:∀v u s2 x y H2,Inv X pins σ H2 s2->RelV x v->RelV y u->R x y H2->wpAny (model X.prog X.w) X.A (f v u) Q X.xe s2) :
  wpAny (model X.prog X.w) X.A (eval a X.env) (λv s₁=>wpAny (model X.prog X.w) X.A (eval b X.env) (λu s₂=>wpAny (model X.prog X.w) X.A (f v u) Q X.xe s₂) X.xe s₁) X.xe s:=by
 refine thn (ha pins s σ H _ I h) λv s1 ⟨x,H1,I1,r1,q1⟩=>?_
 refine thn (hb pins s1 σ H1 _ I1 q1) λu s2 ⟨y,H2,I2,r2,q2⟩=>?_
 exact hf v u s2 x y H2 I2 r1 r2 q2
theorem zX9{op:Operator}{r:R2}(ho:OpR X (binaryOp op) r)(ha:PE X a ta)(hb:PE X b tb):PE X (.BinOp a op b pos) (tOp r ta tb):=by
 intro pins s σ H Q I h
 exact wpAny_BinOp (yBA ha hb I h λv u s2 x y H2 I2 rx ry q=>ho pins s2 σ H2 x y v u Q I2 rx ry q)
theorem yBB{op:UnaryOp}{r:V->Hp->VK->Prop}(ho:UnR X (unaryOp op) r)(ha:PE X a ta):PE X (.UnaryOp op a pos) (tUn r ta):=by
 intro pins s σ H Q I h
 exact UnaryOp_ (thn (ha pins s σ H _ I h) λv s1 ⟨x,H1,I1,r1,q1⟩=>ho pins s1 σ H1 x v Q I1 r1 q1)
theorem opI{f:Value->Value->Sem Value}{C:Int->Int->Prop}{g:Int->Int->Int}
  (rule:∀(i j:Int) (t u:Tok) (s:Shared) (Q:Value->Shared->Prop) (E:Value->Shared->Prop),C i j->Q (.int (g i j) s.toks) { s with toks:=s.toks+1 }->wpAny (model X.prog X.w) X.A (f (.int i t) (.int j u)) Q E s) :
  OpR X f (rI C λi j=>.int (g i j)):=by
 intro pins s σ H x y v u Q I rx ry h
 obtain⟨i,j,rfl,rfl,hc,q⟩:=h
 obtain⟨t,rfl⟩:=rx
 obtain⟨t',rfl⟩:=ry
 exact rule i j t t' s _ _ hc ⟨.int (g i j),H,I.tok _,⟨_,rfl⟩,q⟩
theorem yCJ{f:Value->Value->Sem Value}{g:Int->Int->Int}
  (rule:∀(i j:Int) (t u:Tok) (s:Shared) (Q:Value->Shared->Prop) (E:Value->Shared->Prop),Q (.int (g i j) s.toks) { s with toks:=s.toks+1 }->wpAny (model X.prog X.w) X.A (f (.int i t) (.int j u)) Q E s) :
  OpR X f (rI0 λi j=>.int (g i j)):=by
 intro pins s σ H x y v u Q I rx ry h
 obtain⟨i,j,rfl,rfl,q⟩:=h
 obtain⟨t,rfl⟩:=rx
 obtain⟨t',rfl⟩:=ry
 exact rule i j t t' s _ _ ⟨.int (g i j),H,I.tok _,⟨_,rfl⟩,q⟩
theorem yAQ{f:Value->Value->Sem Value}{g:Int->Int->Bool}
  (rule:∀(i j:Int) (t u:Tok) (s:Shared) (Q:Value->Shared->Prop) (E:Value->Shared->Prop),Q (.bool (g i j)) s->wpAny (model X.prog X.w) X.A (f (.int i t) (.int j u)) Q E s) :
  OpR X f (rI0 λi j=>.bl (g i j)):=by
 intro pins s σ H x y v u Q I rx ry h
 obtain⟨i,j,rfl,rfl,q⟩:=h
 obtain⟨t,rfl⟩:=rx
 obtain⟨t',rfl⟩:=ry
 exact rule i j t t' s _ _ ⟨.bl (g i j),H,I,rfl,q⟩
def yCK(i j:Int):Prop:=0<j/\j<1073741824
def yCL(i j:Int):Prop:=0<=j/\j<=1000000/\i.natAbs<2 ^ 64
def CMul(i j:Int):Prop:=(-(2 ^ 64)<i/\i<2 ^ 64)\/(-(2 ^ 64)<j/\j<2 ^ 64)
theorem CMul.ok{i j:Int}(h:CMul i j):IntMulOk i j:=by
 rcases h with⟨h1,h2⟩|⟨h1,h2⟩
 ·exact .of_left (intBits_le_64 h1 h2)
 ·exact .of_right (intBits_le_64 h1 h2)
theorem op_add:OpR X (binaryOp .Add) (rI0 λi j=>.int (i+j)):=yCJ λ_ _ _ _ _ _ _ q=>add_int q
theorem zYA:OpR X (binaryOp .Sub) (rI0 λi j=>.int (i-j)):=yCJ λ_ _ _ _ _ _ _ q=>sub_int q
theorem zYB:OpR X (binaryOp .Mult) (rI CMul λi j=>.int (i * j)):=opI λ_ _ _ _ _ _ _ hc q=>mul_int q hc.ok
theorem zUY:OpR X (binaryOp .FloorDiv) (rI yCK λi j=>.int (i / j)):=opI λi j _ _ _ _ _ hc q=>by
 have h1:(0:Int)<j:=hc.1
 have h2:j<1073741824:=hc.2
 exact floordiv_int (by lia) (by rw[Int.fdiv_eq_ediv_of_nonneg i (by lia)];exact q) (.inl (PyProof.noPylong_small (by lia)))
theorem zYC:OpR X (binaryOp .Mod) (rI (λ_ j=>0<j) λi j=>.int (i % j)):=opI λi j _ _ _ _ _ hc q=>by
 have h1:(0:Int)<j:=hc
 exact mod_int' (by lia) (by rw[Int.fmod_eq_emod_of_nonneg i (by lia)];exact q)
theorem zYD:OpR X (binaryOp .Pow) (rI yCL λi j=>.int (i ^ j.toNat)):=opI λ_ _ _ _ _ _ _ hc q=>pow_int_small hc.1 hc.2.1 hc.2.2 q
theorem unI{f:Value->Sem Value}{g:Int->Int}
  (rule:∀(i:Int) (t:Tok) (s:Shared) (Q:Value->Shared->Prop) (E:Value->Shared->Prop),Q (.int (g i) s.toks) { s with toks:=s.toks+1 }->wpAny (model X.prog X.w) X.A (f (.int i t)) Q E s) :
  UnR X f (rU λi=>.int (g i)):=by
 intro pins s σ H x v Q I rx h
 obtain⟨i,rfl,q⟩:=h
 obtain⟨t,rfl⟩:=rx
 exact rule i t s _ _ ⟨.int (g i),H,I.tok _,⟨_,rfl⟩,q⟩
theorem zYE:UnR X (unaryOp .USub) (rU λi=>.int (-i)):=unI λ_ _ _ _ _ q=>neg_int q
end
section
variable{X:Cx}{a b c:Expr}{ta tb tc:TE}{pos:Pos}
theorem zTV{pins:List (Addr×Obj)}{σ:St}{H:Hp}{s:Shared}{Q:VK}{k k':Bool}(I:Inv X pins σ H s)(q:Q (.bl k) H)(e:k=k'):EP X pins σ Q (.bool k') s:=by
 subst e
 exact⟨.bl k,H,I,rfl,q⟩
theorem op_lt:OpR X (compareOp .Lt) (rI0 λi j=>.bl (decide (i<j))):=yAQ λ_ _ _ _ _ _ _ q=>lt_int q
theorem yBC:OpR X (compareOp .LtE) (rI0 λi j=>.bl (decide (i<=j))):=yAQ λ_ _ _ _ _ _ _ q=>le_int q
theorem yBD:OpR X (compareOp .Gt) (rI0 λi j=>.bl (decide (j<i))):=yAQ λ_ _ _ _ _ _ _ q=>gt_int q
theorem yBE:OpR X (compareOp .GtE) (rI0 λi j=>.bl (decide (j<=i))):=yAQ λ_ _ _ _ _ _ _ q=>ge_int q
theorem zYF:OpR X (compareOp .Is) (λx y H Q=>y=.non/\Q (.bl (decide (x=.non))) H):=by
 intro pins s σ H x y v u Q I rx ry h
 obtain⟨rfl,q⟩:=h
 cases ry
 refine is_none_gen (zTV I q ?_)
 cases x<;>first
  |(cases rx;rfl)
  |(obtain⟨t,rfl⟩:=rx;rfl)
theorem zUZ:OpR X (compareOp .IsNot) (λx y H Q=>y=.non/\Q (.bl (!decide (x=.non))) H):=by
 intro pins s σ H x y v u Q I rx ry h
 obtain⟨rfl,q⟩:=h
 cases ry
 refine isnot_none_gen (zTV I q ?_)
 cases x<;>first
  |(cases rx;rfl)
  |(obtain⟨t,rfl⟩:=rx;rfl)
theorem OpR.or{f:Value->Value->Sem Value}{r r':R2}(h:OpR X f r)(h':OpR X f r'):OpR X f (λx y H Q=>r x y H Q\/r' x y H Q):=by
 intro pins s σ H x y v u Q I rx ry q
 rcases q with q|q
 ·exact h pins s σ H x y v u Q I rx ry q
 ·exact h' pins s σ H x y v u Q I rx ry q
theorem yCM(b:Expr){op:CmpOp}(h:op≠.In:=by decide)(h2:op≠.NotIn:=by decide):behindInMarks op b=false:=by
 have e1:(op==CmpOp.In)=false:=by cases op<;>first|rfl|exact absurd rfl h
 have e2:(op==CmpOp.NotIn)=false:=by cases op<;>first|rfl|exact absurd rfl h2
 cases b<;>simp[behindInMarks,e1,e2]
theorem zU0{op:CmpOp}{r:R2}(ho:OpR X (compareOp op) r)(ha:PE X a ta)(hb:PE X b tb)(hm:behindInMarks op b=false):PE X (.Compare a [op] [b] pos) (tOp r ta tb):=by
 intro pins s σ H Q I h
 exact wpAny_Compare1 (yBA ha hb I h λv u s2 x y H2 I2 rx ry q=>ho pins s2 σ H2 x y v u Q I2 rx ry q) hm
def yBF(t:TE):TT:=λσ H Q=>t σ H λx H'=>∃k,x=.bl k/\Q k H'
theorem zU1{op:CmpOp}{r:R2}(ho:OpR X (compareOp op) r)(ha:PE X a ta)(hb:PE X b tb)(hm:behindInMarks op b=false):PT X (.Compare a [op] [b] pos) (yBF (tOp r ta tb)):=by
 intro pins s σ H Q I h
 refine wpAny_isTrue_Compare1 (thn (ha pins s σ H _ I h) λv s1 ⟨x,H1,I1,r1,q1⟩=>thn (hb pins s1 σ H1 _ I1 q1) λu s2 ⟨y,H2,I2,r2,q2⟩ =>
  thn (ho pins s2 σ H2 x y v u _ I2 r1 r2 q2) λc s3 ⟨z,H3,I3,r3,k,e,q3⟩=>?_) hm
 subst e
 cases r3
 exact wpAny_truthy_bool ⟨H3,I3,q3⟩
def yCN(K:PySem.W.Frag)(x:V)(H:Hp)(k:Bool):Prop :=
 match x with
 |.non=>k=false
 |.bl b=>k=b
 |.int i=>k=(i != 0)
 |.str y=>y.length<=sizeLine/\k=((y.length:Int) != 0)
 |.byt y=>y.size<=sizeLine/\k=((y.size:Int) != 0)
 |.ref p=>(∃xs,SqL K H p xs/\k=!xs.isEmpty)\/(∃xs,SqT K H p xs/\k=!xs.isEmpty)\/∃kvs,H p=some (.dK kvs)/\k=!kvs.isEmpty
 |_=>False
theorem zM9{κ:Type}{kvs:List (κ×V)}{vs:List (κ×Value)}(r:KV kvs vs):(!vs.isEmpty)=!kvs.isEmpty:=by
 cases r<;>rfl
theorem zGJ{xs:List V}{its:List Value}(r:Vals xs its):(!its.toArray.isEmpty)=!xs.isEmpty:=by
 cases r<;>simp
theorem zEN:(sizeLine:Nat)<2 ^ 63:=by rw[sizeLine_eq];decide
theorem zYG:yDM X (λx H Q=>∃k,yCN X.K x H k/\Q k H):=by
 intro pins s σ H x v Q I rx h
 obtain⟨k,e,q⟩:=h
 have hl:=zEN
 have hs:sizeLine=16777216:=sizeLine_eq
 cases x with
 |non =>
  cases rx
  have e':k=false:=e
  subst e'
  exact truthy_none ⟨H,I,q⟩
 |bl b =>
  cases rx
  have e':k=b:=e
  subst e'
  exact wpAny_truthy_bool ⟨H,I,q⟩
 |int i =>
  obtain⟨t,rfl⟩:=rx
  have e':k=(i != 0):=e
  subst e'
  exact PySem.P.truthy_int ⟨H,I,q⟩
 |str y =>
  obtain⟨t,rfl⟩:=rx
  obtain⟨hy,e'⟩:y.length<=sizeLine/\k=((y.length:Int) != 0):=e
  subst e'
  exact PySem.P.truthy_str (by lia) ⟨H,I.tok _,q⟩
 |byt y =>
  obtain⟨t,rfl⟩:=rx
  obtain⟨hy,e'⟩:y.size<=sizeLine/\k=((y.size:Int) != 0):=e
  subst e'
  exact PySem.W.truthy_bytes (by lia) ⟨H,I.tok _,q⟩
 |ref p =>
  cases rx
  have e':(∃xs,SqL X.K H p xs/\k=!xs.isEmpty)\/(∃xs,SqT X.K H p xs/\k=!xs.isEmpty)\/∃kvs,H p=some (.dK kvs)/\k=!kvs.isEmpty:=e
  rcases e' with⟨xs,hx,e'⟩|⟨xs,hx,e'⟩|⟨kvs,hx,e'⟩
  ·subst e'
   obtain⟨its,r,pl,hz⟩:=I.list hx
   have hlen:=r.length
   exact wpAny_truthy_list pl.isList (by simp only[List.size_toArray];lia) ⟨H,I.tok _,by rw[zGJ r];exact q⟩
  ·subst e'
   obtain⟨its,r,pl,hz⟩:=I.tuple hx
   have hlen:=r.length
   exact truthy_tuple pl (by simp only[List.size_toArray];lia) ⟨H,I.tok _,by rw[zGJ r];exact q⟩
  ·subst e'
   obtain⟨hz,hS,vs,r,m⟩:kvs.length<=sizeLine/\(p==sysModules)=false/\∃vs,KV kvs vs/\s.heap.DictOf (zA1 X.prog X.w) p vs:=I.hok p _ hx
   have hlen:kvs.length=vs.length:=Paired.length r
   exact wpAny_truthy_dict hS m (by lia) ⟨H,I.tok _,by rw[zM9 r];exact q⟩
 |_=>exact(show False from e).elim
theorem zRG(ha:PE X a ta)(he:∀whole,isTrue a X.env whole=(do let v <-whole;standAt a.pos;holding [v] (truthy v))) :
  PT X a (λσ H Q=>ta σ H λx H'=>∃k,yCN X.K x H' k/\Q k H'):=by
 intro pins s σ H Q I h
 exact isTrue_plain (thn (ha pins s σ H _ I h) λv s1 ⟨x,H1,I1,r1,q1⟩=>zYG pins s1 σ H1 x v Q I1 r1 q1) (he _)
theorem zNA:OpR X (binaryOp .Add) (λx y H Q=>∃i j,x=.str i/\y=.str j/\i.length+j.length<=sizeLine/\Q (.str (i++j)) H):=by
 intro pins s σ H x y v u Q I rx ry h
 obtain⟨i,j,rfl,rfl,hz,q⟩:=h
 obtain⟨t,rfl⟩:=rx
 obtain⟨t',rfl⟩:=ry
 exact add_str (λt' tk=>⟨.str (i++j),H,I.tok _,⟨_,rfl⟩,q⟩) hz
theorem zEW{x:V}{us:List Value}(r:Vals [x] us):∃u,us=[u]/\RelV x u:=by
 cases r with
 |cons r1 r2=>cases r2;exact⟨_,rfl,r1⟩
theorem zYH{x y:V}{us:List Value}(r:Vals [x,y] us):∃u w',us=[u,w']/\RelV x u/\RelV y w':=by
 cases r with
 |cons r1 r2 =>
  cases r2 with
  |cons r3 r4=>cases r4;exact⟨_,_,rfl,r1,r3⟩
theorem zOG(hc:X.calm=true):CallR X (.builtin "max") (λxs H Q=>∃i j,xs=[.int i,.int j]/\Q (.int (if j>i then j else i)) H):=by
 intro pins s σ H xs us Q I r h
 obtain⟨i,j,rfl,q⟩:=h
 obtain⟨u,w',rfl,⟨t,rfl⟩,⟨t',rfl⟩⟩:=zYH r
 refine max_two_ints (I.ok.hd hc) λh' tk k=>⟨_,H,I.kept k,?_,q⟩
 by_cases hj:j>i
 ·rw[if_pos hj,if_pos hj];exact⟨_,rfl⟩
 ·rw[if_neg hj,if_neg hj];exact⟨_,rfl⟩
theorem zOH(hc:X.calm=true):CallR X (.builtin "min") (λxs H Q=>∃i j,xs=[.int i,.int j]/\Q (.int (if j<i then j else i)) H):=by
 intro pins s σ H xs us Q I r h
 obtain⟨i,j,rfl,q⟩:=h
 obtain⟨u,w',rfl,⟨t,rfl⟩,⟨t',rfl⟩⟩:=zYH r
 refine min_two_ints (I.ok.hd hc) λh' tk k=>⟨_,H,I.kept k,?_,q⟩
 by_cases hj:j<i
 ·rw[if_pos hj,if_pos hj];exact⟨_,rfl⟩
 ·rw[if_neg hj,if_neg hj];exact⟨_,rfl⟩
end
structure ObjM(h:Heap)(x dx C:Addr)(mA:Str->Option Value):Prop where
 obj:h.get? x=some (PySem.W.instObj C dx)
 ns:h.Ns1 dx mA
 ne:dx≠x
theorem zOI{h:Heap}{dx:Addr}{mA:Str->Option Value}(n:h.Ns1 dx mA):∃od,h.get? dx=some od/\∀name,PySem.W.lookIn name od=some (mA name):=by
 obtain⟨o,es,ep,ho,hd,hk,_,hm⟩:=n
 refine⟨o,ho,λname=>?_⟩
 have e:=hm name
 unfold nsFind findBy at e
 rw[<-Array.find?_toList] at e
 unfold PySem.W.lookIn
 rw[hd]
 dsimp only
 split
 ·rename_i y q
  rw[q] at e
  exact congrArg some e
 ·rename_i q
  rw[q] at e
  have a:es.toList.any (·.refKey)=false:=by
   rw[List.any_eq_false]
   intro y hy
   obtain⟨z,t,hkey⟩:=hk y (Array.mem_toList_iff.mp hy)
   simp[DictEntry.refKey,hkey]
  have a':¬es.toList.any (·.refKey)=true:=by rw[a];exact Bool.false_ne_true
  rw[if_neg a']
  exact congrArg some e
theorem ObjM.look{h:Heap}{x dx C:Addr}{mA:Str->Option Value}(I:ObjM h x dx C mA):∃od,PySem.W.InstAt h x (PySem.W.instObj C dx) C (some od)/\∀name,PySem.W.lookIn name od=some (mA name) :=
 let ⟨od,ho,hl⟩:=zOI I.ns
 ⟨od,⟨I.obj,rfl,rfl,ho⟩,hl⟩
section
variable{prog:Program}{w:World}{A:Around}{E:Value->Shared->Prop}{s:Shared}{K:PySem.W.Frag}{x dx C f:Addr}{mA:Str->Option Value}{name:Str}{v:Value}
end
theorem RelO.some_of{v:V}{o:Option Value}(r:RelO (some v) o):∃u,o=some u/\RelV v u:=by
 cases o with
 |none=>exact(show False from r).elim
 |some u=>exact⟨u,rfl,r⟩
section
variable{P:Program}{w:World}{H H':Hp}{h h':Heap}{a C dx:Addr}{fs fs':List (Str×V)}
theorem zU2(hok:HOk P w H h)(e:H a=some (.ins C dx fs)):∃mA,ObjM h a dx C mA/\(∀f,RelO (fs.lookup f) (mA f))/\PySem.Within mA (fs.map (·.1))/\fs.length<=1000/\H dx=some (.own a):=by
 obtain⟨d,z,ne,ob,mA,n,r,q⟩:=(show ObjOk P w H h a (.ins C dx fs) from hok a _ e)
 exact⟨mA,⟨ob,n,ne⟩,r,q,z,d⟩
end
structure Cls(K:PySem.W.Frag)(C:Addr):Prop where
 pg:PySem.W.plainGet K C Str.empty=true
 hd:PySem.W.hasDictIn K C=true
 po:PySem.W.plainOver K C=true
 sa:PySem.W.findIn K (.ref C) "__setattr__"=some (some (.builtin "object.__setattr__"))
theorem Cls.get{K:PySem.W.Frag}{C:Addr}(c:Cls K C)(f:Str):PySem.W.plainGet K C f=true:=c.pg
section
variable{X:Cx}{pins:List (Addr×Obj)}{σ:St}{H:Hp}{s:Shared}{a C dx:Addr}{fs:List (Str×V)}{f:Str}{v:V}{A:Around}{E:Value->Shared->Prop}
end
section
variable{X:Cx}{o e value:Expr}{f:Str}{pos pos' tpos:Pos}{ta tv:TE}
end
section
variable{X:Cx}{pins:List (Addr×Obj)}{σ:St}{H:Hp}{s:Shared}{A:Around}{E:Value->Shared->Prop}{Q:Value->Shared->Prop}{c:Value}{b:Bool}
inductive TyOf(K:PySem.W.Frag)(H:Hp):V->Value->Prop where
 |non:TyOf K H .non (.type "NoneType")
 |bl (x:Bool):TyOf K H (.bl x) (.type "bool")
 |int (i:Int):TyOf K H (.int i) (.type "int")
 |str (x:Str):TyOf K H (.str x) (.type "str")
 |flt (x:UInt64):TyOf K H (.flt x) (.type "float")
 |lst {a:Addr} {xs:List V} (e:H a=some (.lst xs)):TyOf K H (.ref a) (.type "list")
 |frz {a:Addr} {o:Obj} {xs:List V} (e:H a=some (.frz o (.lst xs))):TyOf K H (.ref a) (.type "list")
 |tup {a:Addr} {xs:List V} (e:H a=some (.tup xs)):TyOf K H (.ref a) (.type "tuple")
 |dK {a:Addr} {kvs:List (Key×V)} (e:H a=some (.dK kvs)):TyOf K H (.ref a) (.type "dict")
 |dT {a:Addr} {kvs:List (List Key×V)} (e:H a=some (.dT kvs)):TyOf K H (.ref a) (.type "dict")
 |ins {a C dx:Addr} {fs:List (Str×V)} (e:H a=some (.ins C dx fs)) (cl:Cls K C) (ha:PySem.W.findIn K (.ref C) "__class__"=some (some (.builtin "object.__class__")))
   (hn:PySem.W.specialIn K (.builtin "object.__class__") "__get__"=some (some (.builtin "getset_descriptor.__get__"))) (htk:PySem.W.takesIn K (.builtin "object.__class__")=some true)
   (hm:PySem.W.mroIn K C (.type "object")=some true):TyOf K H (.ref a) (.ref C)
theorem zD2{x:V}{u t:Value}(I:Inv X pins σ H s)(rx:RelV x u)(ty:TyOf X.K H x t)(e:PySem.W.kitOne X.K t c=some b)(h:∀tk,Q (.bool b) { s with toks:=tk }) :
  wpAny (model X.prog X.w) A (call (.builtin "isinstance") [u,c]) Q E s:=by
 cases ty with
 |non=>cases(show u=Value.none from rx);exact PySem.W.kia_one PySem.W.kitx_none I.kIn True.intro e (λz=>nomatch z) h
 |bl y=>cases(show u=Value.bool y from rx);exact PySem.W.kia_one PySem.W.kitx_bool I.kIn True.intro e (λz=>nomatch z) h
 |int i=>obtain⟨t,q⟩:=(show ∃t,u=Value.int i t from rx);cases q;exact PySem.W.kia_one PySem.W.kitx_int I.kIn True.intro e (λz=>nomatch z) h
 |str y=>obtain⟨t,q⟩:=(show ∃t,u=Value.str y t from rx);cases q;exact PySem.W.kia_one PySem.W.kitx_str I.kIn True.intro e (λz=>nomatch z) h
 |flt y=>obtain⟨t,q⟩:=(show ∃t,u=Value.float y t from rx);cases q;exact PySem.W.kia_one PySem.W.kitx_float I.kIn True.intro e (λz=>nomatch z) h
 |@lst a xs ea =>
  cases(show u=Value.ref a from rx)
  obtain⟨_,_,n,_,h1⟩:=(show ObjOk X.prog X.w H s.heap a (.lst xs) from I.hok a _ ea)
  exact PySem.W.kia_one PySem.W.kitx_list I.kIn ⟨_,h1,rfl⟩ e (λz=>nomatch z) h
 |@frz a ob xs ea =>
  cases(show u=Value.ref a from rx)
  obtain⟨_,_,_,n,_,h1⟩:=(show ObjOk X.prog X.w H s.heap a (.frz ob (.lst xs)) from I.hok a _ ea)
  exact PySem.W.kia_one PySem.W.kitx_list I.kIn ⟨_,h1,rfl⟩ e (λz=>nomatch z) h
 |@tup a xs ea =>
  cases(show u=Value.ref a from rx)
  obtain⟨_,_,_,p⟩:=(show ObjOk X.prog X.w H s.heap a (.tup xs) from I.hok a _ ea)
  obtain⟨o,h1,h2,_⟩:=p
  exact PySem.W.kia_one PySem.W.kitx_tuple I.kIn ⟨o,h1,h2⟩ e (λz=>nomatch z) h
 |@dK a kvs ea =>
  cases(show u=Value.ref a from rx)
  obtain⟨_,_,vs,_,p⟩:=(show ObjOk X.prog X.w H s.heap a (.dK kvs) from I.hok a _ ea)
  obtain⟨o,es,ep,h1,h2,_⟩:=p
  exact PySem.W.kia_one PySem.W.kitx_dict I.kIn ⟨o,h1,h2.1⟩ e (λz=>nomatch z) h
 |@dT a kvs ea =>
  cases(show u=Value.ref a from rx)
  obtain⟨_,_,xs,_,o,es,ep,h1,h2,_⟩:=(show ObjOk X.prog X.w H s.heap a (.dT kvs) from I.hok a _ ea)
  exact PySem.W.kia_one PySem.W.kitx_dict I.kIn ⟨o,h1,h2.1⟩ e (λz=>nomatch z) h
 |@ins a C dx fs ea cl ha hn htk hm =>
  cases(show u=Value.ref a from rx)
  obtain⟨mA,O,_⟩:=zU2 I.hok ea
  obtain⟨od,J,_⟩:=O.look
  exact PySem.W.kia_one (PySem.W.kitx_own (cl.get _) cl.hd ha hn htk hm) I.kIn J e (λz=>nomatch z) h
end
structure Room(k:Nat)(A:Around):Prop where
 hd:A.handled=none
 dp:A.depth+3 * k+5<recursionLimit
 un:A.units+16 * k+200<cLine
theorem Room.mono{j k:Nat}{A:Around}(r:Room k A)(h:j<=k):Room j A:=⟨r.hd,by have:=r.dp;lia,by have:=r.un;lia⟩
theorem Room.deeper{k:Nat}{A:Around}(r:Room (k+1) A)(env:Env):Room k (A.deeper env) :=
 ⟨r.hd,by have:=r.dp;show A.depth+1+3 * k+5<_;lia,by have:=r.un;show A.units+3+16 * k+200<_;lia⟩
theorem Room.in1{k:Nat}{A:Around}(r:Room (k+1) A):Room k A.in1 :=
 ⟨r.hd,by have:=r.dp;show A.depth+3 * k+5<_;lia,by have:=r.un;show A.units+1+16 * k+200<_;lia⟩
theorem Room.depth{k:Nat}{A:Around}(r:Room k A):A.depth<recursionLimit:=by have:=r.dp;lia
theorem Room.units{k:Nat}{A:Around}(r:Room k A):A.units+64<cLine:=by have:=r.un;lia
def yAR:TA:=λ_ H Q=>Q [] H
def zOJ(ta:TE)(tr:TA):TA:=λσ H Q=>ta σ H λx H1=>tr σ H1 λxs H2=>Q (x::xs) H2
section
variable{X:Cx}{e:Expr}{es:List Expr}{te:TE}{t:TA}{pos:Pos}
theorem pa_nil:PA X [] yAR:=λ_ _ _ _ H Q I h=>Calls.spliced_nil ⟨[],H,I,.nil,h⟩
theorem zBF(ha:PE X e te)(hr:PA X es t)(hs:starEach (e::es) X.env=(false,eval e X.env)::starEach es X.env:=by rfl):PA X (e::es) (zOJ te t):=by
 intro pos pins s σ H Q I h
 rw[hs]
 show wpAny _ _ (spliced ((false,eval e X.env)::backTo pos (starEach es X.env))) _ _ s
 refine Calls.spliced_cons (thn (ha pins s σ H _ I h) λu s1 ⟨x,H1,I1,r1,q1⟩=>?_)
 exact thn (hr pos pins s1 σ H1 _ I1 q1) λus s2 ⟨xs,H2,I2,r2,q2⟩=>⟨x::xs,H2,I2,.cons r1 r2,q2⟩
def yDN(t:TA):TE:=λσ H Q=>t σ H λxs H1=>xs.length<=sizeLine/\∀p,H1 p=none->Q (.ref p) (upd H1 p (.tup xs))
def yBG(t:TA):TE:=λσ H Q=>t σ H λxs H1=>xs.length<=sizeLine/\∀p,H1 p=none->Q (.ref p) (upd H1 p (.lst xs))
theorem zYI {x1} (h:PA X es t):PE X (.Tuple es x1 pos) (yDN t):=by
 intro pins s σ H Q I hq
 refine wpAny_Tuple_spliced (thn (h pos pins s σ H _ I hq) λus s1 ⟨xs,H1,I1,r,z,q⟩=>⟨by rw[<-r.length];exact z,?_⟩)
 have hf:H1 s1.heap.objs.size=none:=I1.hok.fresh (Nat.le_refl _)
 refine⟨.ref s1.heap.objs.size,upd H1 s1.heap.objs.size (.tup xs),I1.laid (t':=s1.toks) (λb u e=>Heap.get?_push_of_some _ e) (Nat.le_refl _) ?_,rfl,q _ hf⟩
 exact⟨z,us,r,⟨_,Heap.get?_push_size _ rfl,rfl,rfl,_,rfl⟩⟩
theorem zL5(h:PA X es t):PE X (.List es pos) (yBG t):=by
 intro pins s σ H Q I hq
 refine wpAny_List_spliced (thn (h pos pins s σ H _ I hq) λus s1 ⟨xs,H1,I1,r,z,q⟩=>⟨by rw[<-r.length];exact z,?_⟩)
 have hf:H1 s1.heap.objs.size=none:=I1.hok.fresh (Nat.le_refl _)
 refine⟨.ref s1.heap.objs.size,upd H1 s1.heap.objs.size (.lst xs),I1.laid (t':=s1.toks) (λb u e=>Heap.get?_push_of_some _ e) (Nat.le_refl _) ?_,rfl,q _ hf⟩
 exact⟨z,us,0,r,Heap.get?_push_size _ rfl⟩
end
abbrev Sp:=List V->Hp->VK->XK->Prop
abbrev CXT:=List Env->Hp->Shared->XK->Value->Shared->Prop
structure Env0(P:Program)(w:World)(K:PySem.W.Frag)(mg:Str->Option Value)(base:Heap)(A:Around)(outer:List Env)(s:Shared)(H:Hp):Prop where
 tab:∀T q,TB K T q->∃ps,H T=some (.tbl q ps)
 frames:A.frames=some outer
 mod:Mod K mg base
 bs:∀b o,base.get? b=some o->s.heap.get? b=some o/\H b=none
 bsz:base.objs.size<=s.heap.objs.size
 funs:s.heap.FunFrames base outer
 frf:∀b∈frs outer,H b=none
 hok:HOk P w H s.heap
 bare:AllBare s.gens
def CE(outer:List Env)(P:Program)(w:World)(H:Hp)(s:Shared)(Q:VK)(u:Value)(s':Shared):Prop :=
 ∃v H',s'.os=s.os/\AllBare s'.gens/\Un (frs outer) [] H H' s.heap s'.heap/\HOk P w H' s'.heap/\RelV v u/\Q v H'
def CR(CX:CXT)(outer:List Env)(P:Program)(w:World)(H:Hp)(s:Shared)(Q:VK)(E:XK)(r:Result)(s':Shared):Prop :=
 match r with
 |.ok (.ret u)=>CE outer P w H s Q u s'
 |.ok _=>False
 |.error e=>CX outer H s E e s'
structure FnOk(P:Program)(w:World)(K:PySem.W.Frag)(mg:Str->Option Value)(base:Heap)(CX:CXT)(k:Nat)(f:Addr)(fd:FuncData)(ps:List Str)(sp:Sp):Prop where
 len:∀vs H Q E,sp vs H Q E->vs.length=ps.length
 run:∀(A:Around) (outer:List Env) (s:Shared) (H:Hp) (args:Args) (us:List Value) (vs:List V) (Q:VK) (E:XK),Room k A->Env0 P w K mg base A outer s H->BindsTo s fd args (ps.zip us)->Vals vs us->sp vs H Q E ->
  codeAny (model P w) A (.call (.ref f) args) (CR CX outer P w H s Q E) s
theorem FnOk.imp{P:Program}{w:World}{K:PySem.W.Frag}{mg:Str->Option Value}{base:Heap}{CX:CXT}{k:Nat}{f:Addr}{fd:FuncData}{ps:List Str}{sp sp':Sp}(F:FnOk P w K mg base CX k f fd ps sp)
  (h:∀vs H Q E,sp' vs H Q E->sp vs H Q E):FnOk P w K mg base CX k f fd ps sp' :=
 ⟨λvs H Q E q=>F.len vs H Q E (h _ _ _ _ q),λA outer s H args us vs Q E hr he hb hv hs=>F.run A outer s H args us vs Q E hr he hb hv (h _ _ _ _ hs)⟩
section
variable{X:Cx}{pins:List (Addr×Obj)}{σ:St}{H:Hp}{s s':Shared}
theorem Inv.env0(I:Inv X pins σ H s):Env0 X.prog X.w X.K X.mg X.base X.A X.stack s H :=
 ⟨I.tab,I.ok.frames,I.ok.mod,I.bs,Nat.le_trans I.ok.bsz I.sz,I.stack,I.stkFree,I.hok,I.bare⟩
theorem Inv.after{Q:VK}{u:Value}(I:Inv X pins σ H s)(h:CE X.stack X.prog X.w H s Q u s'):EP X pins σ Q u s':=by
 obtain⟨v,H',os,bare,un,hok,r,q⟩:=h
 obtain⟨hh,g,d,t,os'⟩:=s'
 obtain rfl:os'=s.os:=os
 exact⟨v,H',I.call (h':=hh) (g':=g) (d':=d) (t':=t) (ch:=[]) un hok bare (λb z=>absurd z (by simp)),r,q⟩
end
def zOK(sp:Sp)(dvs:List V)(E:XK)(t:TA):TE:=λσ H Q=>t σ H λvs H1=>sp (vs++dvs) H1 Q E
def Binds(K:PySem.W.Frag)(fd:FuncData)(ps:List Str)(ds:List Value):Prop :=
 ∀(s:Shared) (us:List Value),K.In s.heap->(us++ds).length=ps.length->BindsTo s fd ⟨us,[]⟩ (ps.zip (us++ds))
theorem Binds.all{K:PySem.W.Frag}{fd:FuncData}{ps:List Str}(h:∀us:List Value,us.length=ps.length->bindArgs fd ⟨us,[]⟩=pure (ps.zip us)):Binds K fd ps []:=λs us _ hl=>by
 rw[List.append_nil] at hl ⊢
 exact .of_eq (h us hl)
def zOL(CX:CXT)(X:Cx)(E:XK):Prop:=∀(pins:List (Addr×Obj)) (σ:St) (H:Hp) (s:Shared) (e:Value) (s':Shared),Inv X pins σ H s->CX X.stack H s E e s'->X.xe e s'
section
variable{X:Cx}{CX:CXT}{k:Nat}{f C:Addr}{fd:FuncData}{ps:List Str}{sp:Sp}{dvs:List V}{ds:List Value}{E:XK}{x m:Str}{p pos apos:Pos}{e o:Expr}{es:List Expr}{ta:TE}{t:TA}
theorem zYJ{pins:List (Addr×Obj)}{σ:St}{H:Hp}{s:Shared}{Q:VK}{us:List Value}{vs:List V}(F:FnOk X.prog X.w X.K X.mg X.base CX k f fd ps sp)(hr:Room k X.A)(hb:Binds X.K fd ps ds)(hd:Vals dvs ds)(hx:zOL CX X E)
  (I:Inv X pins σ H s) (r:Vals vs us) (h:sp (vs++dvs) H Q E):wpAny (model X.prog X.w) X.A (call (.ref f) us) (EP X pins σ Q) X.xe s:=by
 have r2:Vals (vs++dvs) (us++ds):=r.append hd
 have hl:(us++ds).length=ps.length:=by rw[<-r2.length];exact F.len _ _ _ _ h
 refine wpAny_call (codeAny_mono (F.run X.A X.stack s H ⟨us,[]⟩ (us++ds) (vs++dvs) Q E hr I.env0 (hb s us I.kIn hl) r2 h) λr s' hq=>?_)
 cases r with
 |error e=>exact hx pins σ H s e s' I hq
 |ok fl =>
  cases fl with
  |ret u=>exact I.after hq
  |next=>exact False.elim hq
  |brk=>exact False.elim hq
  |cont=>exact False.elim hq
theorem zHB(F:FnOk X.prog X.w X.K X.mg X.base CX k f fd ps sp)(hr:Room k X.A)(hg:Gl X x)(hm:X.mg x=some (.ref f))(hk:PySem.W.keepIn X.K (.ref f)=true)(hb:Binds X.K fd ps ds)(hd:Vals dvs ds)(hx:zOL CX X E)
  (ha:PA X (e::es) t) (hdb:(x==("__debug__":Str))=false:=by decide) (he:starEach (e::es) X.env=(false,eval e X.env)::starEach es X.env:=by rfl) (hpl:(backTo pos (starEach es X.env)).any (·.1)=false:=by rfl) :
  PE X (.Call (.Name x p) (e::es) [] pos) (zOK sp dvs E t):=by
 intro pins s σ H Q I h
 refine wpAny_Call_Name_kw (zUU I hg hm ?_ hdb)
 refine PySem.W.callWith_K (h₀:=X.base) I.ok.mod.kin hk (thn (ha pos pins s σ H _ I h) λus s1 ⟨vs,H1,I1,r,q⟩=>⟨I1.kIn,?_⟩) he hpl
 exact zYJ F hr hb hd hx I1 r q
end
section
variable{X:Cx}{CX:CXT}{k:Nat}{f C:Addr}{fd:FuncData}{ps ks:List Str}{sp:Sp}{E:XK}{x m:Str}{p pos apos kpos:Pos}{e o:Expr}{es:List Expr}{kws:List Keyword}{te ta:TE}{t tk:TA}{nm:Option Str}
variable{g:List Value->List Value->List Value}{gV:List V->List V->List V}
end
structure FnScope(N P:List Str)(sc:Scope):Prop where
 kind:sc.kind=.function
 co:sc.isCoroutine=false
 gen:sc.isGenerator=false
 nd:N.Nodup
 pre:N.take P.length=P
 par:∀x∈P,sc.names.lookup x=some .local\/sc.names.lookup x=some .cell
 nofree:∀y∈sc.names,y.2≠.free
theorem zIV{kindOf:Str->Option NameKind}{x:Str}:∀{binds:List (Str×Value)} {m:Str->Option Value},(∀v,(x,v)∉binds)->bindL kindOf binds m x=m x
 |[],_,_=>rfl
 |(n,v)::r,m,h=>by
  unfold bindL
  rw[zIV λw hw=>h w (List.mem_cons_of_mem _ hw)]
  split
  ·have:x≠n:=by rintro rfl;exact h v List.mem_cons_self
   simp[this]
  ·rfl
theorem zIW{kindOf:Str->Option NameKind}{x:Str}:∀{binds:List (Str×Value)} {m:Str->Option Value},(∀v,(x,v)∉binds)->bindC kindOf binds m x=m x
 |[],_,_=>rfl
 |(n,v)::r,m,h=>by
  unfold bindC
  rw[zIW λw hw=>h w (List.mem_cons_of_mem _ hw)]
  split
  ·rfl
  ·have:x≠n:=by rintro rfl;exact h v List.mem_cons_self
   simp[this]
theorem zIX{kindOf:Str->Option NameKind}{x:Str}{v:Value}:∀{P:List Str} {vs:List Value} {i:Nat} {m:Str->Option Value},P.Nodup->P[i]?=some x->vs[i]?=some v->kindOf x=some .local ->
  bindL kindOf (P.zip vs) m x=some v
 |[],_,_,_,_,h,_,_=>by simp at h
 |_::_,[],_,_,_,_,h,_=>by simp at h
 |p::P,w::vs,0,m,nd,h1,h2,hk=>by
  simp at h1 h2;subst h1;subst h2
  show bindL kindOf ((p,w)::P.zip vs) m p=_
  unfold bindL
  rw[zIV λv hv=>(List.nodup_cons.mp nd).1 (List.of_mem_zip hv).1,if_pos hk]
  simp
 |p::P,w::vs,i+1,m,nd,h1,h2,hk=>by
  show bindL kindOf ((p,w)::P.zip vs) m x=_
  unfold bindL
  exact zIX (i:=i) (List.nodup_cons.mp nd).2 (by simpa using h1) (by simpa using h2) hk
theorem zIY{kindOf:Str->Option NameKind}{x:Str}{v:Value}:∀{P:List Str} {vs:List Value} {i:Nat} {m:Str->Option Value},P.Nodup->P[i]?=some x->vs[i]?=some v->kindOf x≠some .local ->
  bindC kindOf (P.zip vs) m x=some v
 |[],_,_,_,_,h,_,_=>by simp at h
 |_::_,[],_,_,_,_,h,_=>by simp at h
 |p::P,w::vs,0,m,nd,h1,h2,hk=>by
  simp at h1 h2;subst h1;subst h2
  show bindC kindOf ((p,w)::P.zip vs) m p=_
  unfold bindC
  rw[zIW λv hv=>(List.nodup_cons.mp nd).1 (List.of_mem_zip hv).1,if_neg hk]
  simp
 |p::P,w::vs,i+1,m,nd,h1,h2,hk=>by
  show bindC kindOf ((p,w)::P.zip vs) m x=_
  unfold bindC
  exact zIY (i:=i) (List.nodup_cons.mp nd).2 (by simpa using h1) (by simpa using h2) hk
noncomputable def start(N:List Str)(vs:List V):St:=vs.map some++List.replicate (N.length-vs.length) none
noncomputable def zRH(CX:CXT)(P:Program)(w:World)(K:PySem.W.Frag)(mg:Str->Option Value)(base:Heap)(N:List Str)(qual:Str)(scope:Scope)(f:Addr)(cd:Value)(A:Around)(outer:List Env)(s:Shared)(H:Hp)(E:XK):Cx where
 prog:=P
 w:=w
 K:=K
 mg:=mg
 base:=base
 A:=A.deeper (envOfC qual scope s.heap.objs.size f cd)
 N:=N
 s₀:=s
 H₀:=H
 env:=envOfC qual scope s.heap.objs.size f cd
 outer:=outer
 stack:=envOfC qual scope s.heap.objs.size f cd::outer
 ex:=[]
 calm:=true
 fn:=λ_=>true
 pn:=[]
 xe:=λe s'=>wpAny (model P w) (A.deeper (envOfC qual scope s.heap.objs.size f cd)) (leaving (envOfC qual scope s.heap.objs.size f cd) e) (λ_ s''=>CX outer H s E e s'') (λe' s''=>CX outer H s E e' s'') s'
theorem zL6{sc:Scope}{n:Nat}{x:Str}(h:sc.names.lookup x=some .cell):∃c,(cellsFrom n sc.names []).lookup x=some c:=by
 have q:=PySem.W.cellsFrom_some sc.names n [] (.inl h)
 exact Option.isSome_iff_exists.mp q
theorem zOM{CX:CXT}{P:Program}{w:World}{K:PySem.W.Frag}{mg:Str->Option Value}{base:Heap}{N ps:List Str}{qual:Str}{scope:Scope}{f:Addr}{cd:Value}{A:Around}{outer:List Env}{s s1:Shared}{H:Hp}{E:XK}{us:List Value}{vs:List V}
  (S:FnScope N ps scope) (hd:A.handled=none) (e0:Env0 P w K mg base A outer s H) (hl:vs.length=ps.length) (r:Vals vs us)
  (x:InCallC s s.heap.objs.size (bindL (envOfC qual scope s.heap.objs.size f cd).kindOf (ps.zip us) λ_=>none) (cellsFrom (s.heap.objs.size+1) scope.names []) (bindC (envOfC qual scope s.heap.objs.size f cd).kindOf (ps.zip us) λ_=>none) s1) :
  Inv (zRH CX P w K mg base N qual scope f cd A outer s H E) [] (start N vs) H s1:=by
 have hpl:ps.length<=N.length:=by have:=congrArg List.length S.pre;rw[List.length_take] at this;lia
 obtain⟨h1,tk,rfl,hk⟩:=x.done
 have noA:∀b:Addr,b∉(zRH CX P w K mg base N qual scope f cd A outer s H E).ex:=λb z=>absurd (show b∈([]:List Addr) from z) (by simp)
 refine⟨⟨e0.tab,e0.mod,S.kind,rfl,rfl,Nat.le_refl _,λy z c h1 h2=>?_,λy hy=>?_,λy c _ h=>?_,λ_=>hd,Around.frames_deeper e0.frames,.inr ⟨rfl,rfl⟩,λb z=>absurd z (noA b),e0.bs,e0.bsz,λb _ _=>noA b,λb z=>absurd z (noA b),e0.funs,e0.frf⟩,
  rfl,e0.bare,Un.kept hk,⟨_,x.toInCall.ns,λi y v h1 h2 h3=>?_⟩,λy c h=>⟨_,x.cell y c h⟩,e0.hok.fresh (Nat.le_refl _),λy c h=>?_,λp hp=>absurd (show p∈([]:List (Addr×Obj)) from hp) (by simp),e0.hok.kept hk,?_⟩
 ·exact name_of_addr x.apart (PySem.mem_of_lookup h1) (PySem.mem_of_lookup h2)
 ·have hy:scope.names.lookup y=some .cell\/scope.names.lookup y=some .free:=hy
  rcases hy with hy|hy
  ·exact zL6 hy
  ·exact absurd rfl (S.nofree _ (PySem.mem_of_lookup hy))
 ·exact Nat.le_of_lt (x.above y c (PySem.mem_of_lookup h))
 ·have hi:i<vs.length:=by
   unfold start at h2
   by_cases hi:i<vs.length
   ·exact hi
   ·rw[List.getElem?_append_right (by simpa using hi)] at h2
    rw[List.getElem?_replicate] at h2
    split at h2<;>cases h2
  have ha:vs[i]?=some v:=by
   unfold start at h2
   rw[List.getElem?_append_left (by simpa using hi),List.getElem?_map] at h2
   cases e:vs[i]? with
   |none=>rw[e] at h2;cases h2
   |some a=>rw[e] at h2;cases h2;rfl
  obtain⟨u,hu,rv⟩:=r.get ha
  have hp:ps[i]?=some y:=by
   rw[<-S.pre,List.getElem?_take_of_lt (by lia)];exact h1
  have ndP:ps.Nodup:=by rw[<-S.pre];exact S.nd.sublist (List.take_sublist _ _)
  refine⟨u,rv,?_⟩
  rcases S.par y (List.mem_of_getElem? hp) with k|k
  ·exact .inl ⟨k,zIX ndP hp hu k⟩
  ·obtain⟨c,e⟩:=zL6 (n:=s.heap.objs.size+1) k
   refine .inr ⟨.inl k,c,e,?_⟩
   have q:=x.cell y c e
   rw[zIY ndP hp hu (by show scope.names.lookup y≠_;rw[k];decide)] at q
   exact q
 ·exact e0.hok.fresh (Nat.le_of_lt (x.above y c (PySem.mem_of_lookup h)))
 ·unfold start
  show _=N.length
  rw[List.length_append,List.length_map,List.length_replicate]
  lia
theorem zYK{CX:CXT}{P:Program}{w:World}{K:PySem.W.Frag}{mg:Str->Option Value}{base:Heap}{k:Nat}{f:Addr}{name qual:Str}{params:Arguments}{body:List Stmt}{scope:Scope}{dV kV doc pm cdv ct oc:Value}{an od:Option Addr}
  {osl:Array (Option Value)} {N ps:List Str} {sp:Sp} (lk:K.lookup f=some ⟨oc,od,.func (PySem.W.fnOf name qual params body scope dV kV doc pm an cdv ct),osl⟩) (hcd:PySem.W.codeIn K cdv qual=true) (S:FnScope N ps scope)
  (len:∀vs H Q E,sp vs H Q E->vs.length=ps.length)
  (hbody:∀(A:Around) (outer:List Env) (s:Shared) (H:Hp) (vs:List V) (Q:VK) (E:XK),Room k (A.deeper (envOfC qual scope s.heap.objs.size f cdv))->sp vs H Q E ->
   ∃t,PSs (zRH CX P w K mg base N qual scope f cdv A outer s H E) body t/\t { nx:=λ_ H'=>Q .non H',rt:=Q } (start N vs) H) :
  FnOk P w K mg base CX (k+1) f (PySem.W.fnOf name qual params body scope dV kV doc pm an cdv ct) ps sp:=by
 refine⟨len,λA outer s H args us vs Q E hr e0 hb r hsp=>?_⟩
 have hl:=len _ _ _ _ hsp
 have KX:K.In s.heap:=e0.mod.kin.keeps λb o e=>(e0.bs b o e).1
 have lim:s.heap.NoLimit:=e0.mod.nolimit.keeps λb o e=>(e0.bs b o e).1
 have hkind:∀y∈ps.zip us,scope.names.lookup y.1=some .local\/(scope.names.lookup y.1=some .cell/\((cellsFrom (s.heap.objs.size+1) scope.names []).lookup y.1).isSome=true):=λ⟨n,v⟩ hy=>by
  rcases S.par n (List.of_mem_zip hy).1 with q|q
  ·exact .inl q
  ·exact .inr ⟨q,PySem.W.cellsFrom_some _ _ _ (.inl q)⟩
 refine codeAny_call_function hr.depth (KX _ _ lk) rfl S.co S.gen rfl (PySem.W.codeRec_of KX hcd) (hb _ _ _ _ ?_)
 refine wpAny_newFunctionEnv_cells S.kind hkind λenv he s1 x=>?_
 subst he
 refine⟨lim.keeps x.toInCall.keep,codeAny_func ?_⟩
 obtain⟨t,ht,hq⟩:=hbody A outer s H vs Q E (hr.deeper _) hsp
 have I:Inv (zRH CX P w K mg base N qual scope f cdv A outer s H E) [] (start N vs) H s1:=zOM S hr.hd e0 hl r x
 refine wpAny_mono (ht [] s1 (start N vs) H _ I hq) (λfl s' hs=>?_) λe s' hs=>hs
 have fin:∀{σ':St} {H':Hp} {v:V} {u:Value},Inv (zRH CX P w K mg base N qual scope f cdv A outer s H E) [] σ' H' s'->RelV v u->Q v H'->CE outer P w H s Q u s' :=
  λ{σ' H' v u} J rv q=>⟨v,H',J.os,J.bare,J.base,J.hok,rv,q⟩
 cases fl with
 |ret u =>
  obtain⟨v,σ',H',J,rv,q⟩:=hs
  exact fin J rv q
 |next =>
  obtain⟨σ',H',J,q⟩:=hs
  exact fin (v:=V.non) (u:=Value.none) J rfl q
 |brk =>
  obtain⟨_,_,_,q⟩:=hs
  exact False.elim q
 |cont =>
  obtain⟨_,_,_,q⟩:=hs
  exact False.elim q
section
variable{X:Cx}{x:Str}{p pos:Pos}{e:Expr}{es:List Expr}{t:TA}{id T:String}{r:List V->Hp->VK->Prop}
def tCB(r:List V->Hp->VK->Prop)(t:TA):TE:=λσ H Q=>t σ H λvs H1=>r vs H1 Q
theorem zHC(hc:CallR X (.builtin id) r)(hg:Gl X x)(hm:X.mg x=none)(hv:bootBuiltins x=some (.builtin id))(ha:PA X (e::es) t)(hn:x≠"__name__":=by decide)(hdb:(x==("__debug__":Str))=false:=by decide)
  (he:starEach (e::es) X.env=(false,eval e X.env)::starEach es X.env:=by rfl) (hpl:(backTo pos (starEach es X.env)).any (·.1)=false:=by rfl):PE X (.Call (.Name x p) (e::es) [] pos) (tCB r t):=by
 intro pins s σ H Q I h
 refine wpAny_Call_Name_kw (zFG I hg hm hv ?_ hn hdb)
 exact PyProof.Rows.callWith_builtin1 (thn (ha pos pins s σ H _ I h) λus s1 ⟨vs,H1,I1,r1,q1⟩=>hc pins s1 σ H1 vs us Q I1 r1 q1) he hpl
theorem zD3(hc:CallR X (.type T) r)(hg:Gl X x)(hm:X.mg x=none)(hv:bootBuiltins x=some (.type T))(ha:PA X (e::es) t)(hn:x≠"__name__":=by decide)(hdb:(x==("__debug__":Str))=false:=by decide)
  (he:starEach (e::es) X.env=(false,eval e X.env)::starEach es X.env:=by rfl) (hpl:(backTo pos (starEach es X.env)).any (·.1)=false:=by rfl):PE X (.Call (.Name x p) (e::es) [] pos) (tCB r t):=by
 intro pins s σ H Q I h
 refine wpAny_Call_Name_kw (zFG I hg hm hv ?_ hn hdb)
 exact PyProof.Rows.callWith_type1 (thn (ha pos pins s σ H _ I h) λus s1 ⟨vs,H1,I1,r1,q1⟩=>hc pins s1 σ H1 vs us Q I1 r1 q1) he hpl
end
end L2
namespace HT
open PySem PyProof.Rows
noncomputable def lexLt:List Int->List Int->Bool
 |[],[]=>false
 |[],_::_=>true
 |_::_,[]=>false
 |x::xs,y::ys=>if x=y then lexLt xs ys else decide (x<y)
theorem zNB(x y:Int)(xs ys:List Int):lexLt (x::xs) (y::ys)=if x=y then lexLt xs ys else decide (x<y):=rfl
theorem zHD:lexLt [] []=false:=rfl
theorem zF7(y:Int)(ys:List Int):lexLt [] (y::ys)=true:=rfl
theorem zF8(x:Int)(xs:List Int):lexLt (x::xs) []=false:=rfl
theorem zRI(A:Around)(s:Shared)(a:Int)(t:Tok)(c:Int)(u:Tok):∃e,SeqAt.EqAt A s (.int a t) (.int c u) e/\(e=true↔a=c) :=
 ⟨(a==c),SeqAt.EqAt.int_int a t c u,by simp⟩
theorem zRJ(A:Around)(s:Shared)(a:Int)(t:Tok)(c:Int)(u:Tok)(prog:Program)(w:World)(E:Value->Shared->Prop)(Q:Value->Shared->Prop)(h:Q (.bool (decide (a<c))) s) :
  wpAny (model prog w) A (richCompare .Lt (.int a t) (.int c u)) Q E s :=
 (PyProof.Rows.lt_int h:wpAny (model prog w) A (compareOp .Lt (.int a t) (.int c u)) Q E s)
section
open PySem.SeqAt
open PySem.AutoSeq1 (wpAny_loadPart')
open PySem.MeetsSeq PySem.MeetsSeq2 PySem.MeetsSeq3
theorem zHE(l b:Addr)(items items2:Array Value)(n n2:Nat)(dd dd2:Option Addr)(sl sl2:Array (Option Value))(ns ms:List Int)(hi:IntsAre items.toList ns)(hj:IntsAre items2.toList ms) :
  Meets (Builtin.«tuple.__lt__» ⟨[.ref l,.ref b],[]⟩)
   (λ_ R s=>s.heap.get? l=some { cls:=.type "tuple",dict:=dd,data:=.seq items n,slots:=sl }/\s.heap.get? b=some { cls:=.type "tuple",dict:=dd2,data:=.seq items2 n2,slots:=sl2 } /\
    R (.ok (.ret (.bool (lexLt ns ms)))) s) :=
 .of_wp λprog w A R s h=>by
  obtain⟨hp,g,d,tk,os⟩:=s;obtain⟨hl,hb,h⟩:=h
  have f2:=AutoSeq1.sub_tuple_tuple
  have z1:items.size=ns.length:=by rw[<-hi.length];simp
  have z2:items2.size=ms.length:=by rw[<-hj.length];simp
  wp_walk using wpAny_loadPart' hl,wpAny_loadPart' hb,wpAny_forIn_list _ (λrest b s'=>b.1=none/\s'=⟨hp,g,d,tk,os⟩/\∃(vs ws:List Value) (ns' ms':List Int),rest=vs.zip ws /\
   IntsAre vs ns'/\IntsAre ws ms'/\ns'.length+items2.size=ms'.length+items.size/\R (.ok (.ret (.bool (lexLt ns' ms')))) ⟨hp,g,d,tk,os⟩) _
  case turn =>
   rintro⟨y,x⟩ rest b s' ⟨hb',rfl,vs,ws,ns',ms',hz,hvi,hwi,hlen,hR⟩
   cases hvi with
   |nil=>rw[List.zip_nil_left] at hz;cases hz
   |cons a t hvi' =>
    cases hwi with
    |nil=>rw[List.zip_nil_right] at hz;cases hz
    |cons c u hwi' =>
     rw[List.zip_cons_cons] at hz
     injection hz with hyx hrest
     injection hyx with hy hx
     subst hy hx
     rw[zNB] at hR
     simp only[List.length_cons] at hlen
     obtain⟨e,he,hiff⟩:=zRI A.in1 ⟨hp,g,d,tk,os⟩ a t c u
     refine wpAny_bind (he prog w _ _ ?_)
     cases e with
     |true =>
      rw[if_pos (hiff.mp rfl)] at hR
      wp_walk
      exact⟨rfl,rfl,_,_,_,_,hrest,hvi',hwi',by lia,hR⟩
     |false =>
      rw[if_neg (λq=>absurd (hiff.mpr q) Bool.false_ne_true)] at hR
      have hri:=zRJ A.in1 ⟨hp,g,d,tk,os⟩ a t c u prog w
      wp_walk using hri
      exact⟨_,rfl,by simpa using hR⟩
  case fin =>
   rintro⟨b1,b2⟩ s' ⟨hb',rfl,vs,ws,ns',ms',hz,hvi,hwi,hlen,hR⟩
   simp only at hb'
   subst hb'
   have hv:lexLt ns' ms'=decide (items.size<items2.size):=by
    cases hvi with
    |nil =>
     cases hwi with
     |nil =>
      simp only[List.length_nil] at hlen
      rw[zHD]
      exact(decide_eq_false (by lia)).symm
     |cons c u hw =>
      simp only[List.length_nil,List.length_cons] at hlen
      rw[zF7]
      exact(decide_eq_true (by lia)).symm
    |cons a t hv =>
     cases hwi with
     |nil =>
      simp only[List.length_nil,List.length_cons] at hlen
      rw[zF8]
      exact(decide_eq_false (by lia)).symm
     |cons c u hw =>
      rw[List.zip_cons_cons] at hz
      cases hz
   rw[hv] at hR
   wp_walk
   exact⟨_,rfl,by simpa[Builtin.Tuple.tupleCompareSizes] using hR⟩
  case h =>
   exact⟨rfl,rfl,items.toList,items2.toList,ns,ms,rfl,hi,hj,by lia,h⟩
end
section
variable{prog:Program}{w:World}{A:Around}{E:Value->Shared->Prop}{s:Shared}
theorem lt_tupInts{l b:Addr}{items items2:Array Value}{ns ms:List Int}{Q:Value->Shared->Prop}(hl:IsTup s.heap l items)(hb:IsTup s.heap b items2)(hi:IntsAre items.toList ns)(hj:IntsAre items2.toList ms)
  (hu:A.units<cLine) (h:Q (.bool (lexLt ns ms)) s):wpAny (model prog w) A (compareOp .Lt (.ref l) (.ref b)) Q E s:=by
 obtain⟨⟨cls,dd,data,sl⟩,ho,hc,n,hd⟩:=id hl
 obtain⟨⟨cls2,dd2,data2,sl2⟩,ho2,hc2,n2,hd2⟩:=id hb
 simp only at hc hd hc2 hd2
 subst hc hd hc2 hd2
 exact richCompare_meets_room (op:=.Lt) ⟨_,ho,rfl⟩ ⟨_,ho2,rfl⟩ PySem.F.slot_tuple_lt PySem.F.entry_tuple_lt (PySem.F.args_tuple_lt_2 _ _) (zHE l b items items2 n n2 dd dd2 sl sl2 ns ms hi hj)
  ⟨ho,ho2,show Value.bool (lexLt ns ms)≠Value.notImplemented/\Q (.bool (lexLt ns ms)) s from⟨(λx=>nomatch x),h⟩⟩ hu
theorem cat_tup{t b:Addr}{vs ws:List Value}{Q:Value->Shared->Prop}(ht:IsTup s.heap t vs.toArray)(hb:IsTup s.heap b ws.toArray)(hv:vs≠[])
  (h1:ws=[]->Q (.ref t) s) (h2:ws≠[]->Q (.ref s.heap.objs.size) { s with heap:=s.heap.push { cls:=.type "tuple",data:=.seq (vs++ws).toArray } })
  (hsz:vs.length+ws.length<=sizeLine):wpAny (model prog w) A (binaryOp .Add (.ref t) (.ref b)) Q E s:=by
 obtain⟨⟨cls,dd,data,sl⟩,ho,hc,n,hd⟩:=id ht
 obtain⟨⟨cls2,dd2,data2,sl2⟩,ho2,hc2,n2,hd2⟩:=id hb
 simp only at hc hd hc2 hd2
 subst hc hd hc2 hd2
 have e:vs.toArray++ws.toArray=(vs++ws).toArray:=by simp
 by_cases hw:ws=[]
 ·exact concat_meets ⟨_,ho,rfl⟩ ⟨_,ho2,rfl⟩ noFill_tuple_add seq_tuple_add PySem.F.slot_tuple_add PySem.F.entry_tuple_add (PySem.F.args_tuple_add_2 _ _)
   (tuple_addW1 t b vs.toArray ws.toArray n n2 dd dd2 sl sl2 (by simpa using hv) (by simp[hw])) ⟨ho,ho2,h1 hw⟩
 ·refine concat_meets ⟨_,ho,rfl⟩ ⟨_,ho2,rfl⟩ noFill_tuple_add seq_tuple_add PySem.F.slot_tuple_add PySem.F.entry_tuple_add (PySem.F.args_tuple_add_2 _ _)
   (tuple_addW2 t b vs.toArray ws.toArray n n2 dd dd2 sl sl2 (by simpa using hv) (by simpa using hw) (by rw[List.size_toArray,List.size_toArray];exact hsz)) ⟨ho,ho2,?_⟩
  rw[e]
  exact h2 hw
noncomputable def sIx(n d:Nat):Option Int->Nat
 |none=>d
 |some v=>if v<0 then(v+(n:Int)).toNat else min v.toNat n
theorem zYL(n d:Nat)(hd:d<=n)(o:Option Int):sIx n d o<=n:=by
 cases o with
 |none=>exact hd
 |some v =>
  show(if v<0 then(v+(n:Int)).toNat else min v.toNat n)<=n
  by_cases hv:v<0
  ·rw[if_pos hv];lia
  ·rw[if_neg hv];exact Nat.min_le_right _ _
theorem zON(v:Int)(n d:Nat):(if v<0 then max (v+(n:Int)) 0 else min v (n:Int))=((sIx n d (some v):Nat):Int):=by
 show(if v<0 then max (v+(n:Int)) 0 else min v (n:Int))=(((if v<0 then(v+(n:Int)).toNat else min v.toNat n):Nat):Int)
 by_cases hv:v<0
 ·simp only[if_pos hv];lia
 ·simp only[if_neg hv];lia
theorem zNC(lo hi:Option Int)(n:Nat):Builtin.Slice.sliceAdjust lo hi 1 (n:Int)=(((sIx n 0 lo:Nat):Int),((sIx n n hi:Nat):Int)):=by
 have h1:¬((1:Int)<0):=by lia
 unfold Builtin.Slice.sliceAdjust
 simp only[h1,if_false]
 refine Prod.ext ?_ ?_
 ·cases lo with
  |none=>rfl
  |some v=>exact zON v n 0
 ·cases hi with
  |none=>rfl
  |some v=>exact zON v n n
theorem zND(i j:Nat):Builtin.Slice.slicePlaces (i:Int) (j:Int) 1=j-i:=by
 unfold Builtin.Slice.slicePlaces
 have h1:(1:Int)>0:=by lia
 simp only[h1,if_true,Int.ediv_one]
 split<;>lia
theorem zGK{v:Value}{o:Option Int}{Q:Option Int->Shared->Prop}(p:IsPart v o)(h:Q o s):wpAny (model prog w) A (Builtin.Slice.slicePartIndex v) Q E s:=by
 cases p with
 |none=>exact slicePart_none h
 |int i t=>exact slicePart_int h
theorem sliceApplied_gen{sl:Addr}{vl vu:Value}{lo hi:Option Int}{n:Nat}{Q:Int×Int×Nat->Shared->Prop}(hs:s.heap.IsSliceOf sl vl vu .none)(pl:IsPart vl lo)(pu:IsPart vu hi)
  (h:Q (((sIx n 0 lo:Nat):Int),1,sIx n n hi-sIx n 0 lo) s):wpAny (model prog w) A (Builtin.Slice.sliceApplied (.ref sl) (pure (n:Int))) Q E s:=by
 obtain⟨os,hos,hcs,hds⟩:=id hs
 unfold Builtin.Slice.sliceApplied Builtin.Slice.sliceFields
 refine wpAny_bind (wpAny_bind (wpAny_field hos hds (x:=vl) rfl (wpAny_bind (wpAny_field hos hds (x:=vu) rfl (wpAny_bind (wpAny_field hos hds (x:=.none) rfl (wpAny_pure ?_)))))))
 refine wpAny_bind (slicePart_none ?_)
 show wpAny _ _ (if((1:Int)==0)=true then _ else _) _ _ s
 rw[if_neg (by decide)]
 refine wpAny_bind (zGK pl (wpAny_bind (zGK pu (wpAny_bind (wpAny_pure ?_)))))
 show wpAny _ _ (match Builtin.Slice.sliceAdjust lo hi 1 (n:Int) with|(lo,hi)=>pure (lo,(1:Int),Builtin.Slice.slicePlaces lo hi 1)) _ _ s
 rw[zNC lo hi n]
 show wpAny _ _ (pure (((sIx n 0 lo:Nat):Int),(1:Int),Builtin.Slice.slicePlaces ((sIx n 0 lo:Nat):Int) ((sIx n n hi:Nat):Int) 1)) _ _ s
 rw[zND]
 exact wpAny_pure h
theorem zRK(xs:Array Value)(i k:Nat):((List.range k).filterMap λ(m:Nat)=>xs[((i:Int)+(m:Int) * 1).toNat]?).toArray=((xs.toList.drop i).take k).toArray:=by
 have e:(λ(m:Nat)=>xs[((i:Int)+(m:Int) * 1).toNat]?)=λm=>xs[i+m]?:=by
  funext m
  have:((i:Int)+(m:Int) * 1).toNat=i+m:=by lia
  rw[this]
 rw[e]
 have:=pick_run xs i k
 rw[List.filterMap_map] at this
 have e2:((λx=>xs[x]?)∘λx=>i+x)=λm=>xs[i+m]?:=rfl
 rw[e2] at this
 rw[this]
theorem getItem_tuple_cut{t sl:Addr}{items:Array Value}{vl vu:Value}{lo hi:Option Int}{Q:Value->Shared->Prop}(ht:IsTup s.heap t items)(hs:s.heap.IsSliceOf sl vl vu .none)(pl:IsPart vl lo)(pu:IsPart vu hi)
  (hw:¬(sIx items.size 0 lo=0/\sIx items.size items.size hi=items.size))
  (h:Q (.ref s.heap.objs.size) { s with heap:=s.heap.push { cls:=.type "tuple",data:=.seq ((items.toList.drop (sIx items.size 0 lo)).take (sIx items.size items.size hi-sIx items.size 0 lo)).toArray } })
  (hsz:items.size<=sizeLine):wpAny (model prog w) A (getItem (.ref t) (.ref sl)) Q E s:=by
 have htake:sizeOk (.seq ((items.toList.drop (sIx items.size 0 lo)).take (sIx items.size items.size hi-sIx items.size 0 lo)).toArray):=by
  show((items.toList.drop (sIx items.size 0 lo)).take (sIx items.size items.size hi-sIx items.size 0 lo)).toArray.size<=sizeLine
  rw[List.size_toArray,List.length_take,List.length_drop,Array.length_toList]
  lia
 have hj:sIx items.size items.size hi<=items.size:=zYL _ _ (Nat.le_refl _) hi
 obtain⟨os,hos,hcs,hds⟩:=id hs
 have hTs:s.TypeIs (.ref sl) "slice":=⟨os,hos,hcs⟩
 unfold getItem
 try with_reducible refine wpAny_holding ?_
 first|refine wpAny_bind (wpAny_pure ?_)|skip
 refine wpAny_bind (wpAny_sequenceKey ht.typeIs (by decide) ?_)
 refine wpAny_bind (wpAny_callSpecial?_slot (name:=Str.ofString "__getitem__") ht.typeIs PyProof.Rows.slot_tuple_getitem
  (wpAny_call_entry PyProof.Rows.slot_tuple_getitem ht.typeIs entry_tuple_getitem ?_ (args_tuple_getitem _ _)))
 show wpAny _ _ (Builtin.Tuple.tupleItemsOf (.ref t) >>= _) _ _ s
 refine wpAny_bind (tupleItemsOf_ ht ?_)
 refine wpAny_bind (wpAny_typeOf hTs ?_)
 rw[if_pos (by decide)]
 refine wpAny_bind (sliceApplied_gen hs pl pu ?_)
 have hno:¬((((sIx items.size 0 lo:Nat):Int)==0&&(1:Int)==1&&(sIx items.size items.size hi-sIx items.size 0 lo)==items.size)=true):=by
  intro q
  rw[Bool.and_eq_true,Bool.and_eq_true] at q
  have q1:((sIx items.size 0 lo:Nat):Int)=0:=eq_of_beq q.1.1
  have q2:sIx items.size items.size hi-sIx items.size 0 lo=items.size:=eq_of_beq q.2
  exact hw ⟨by lia,by lia⟩
 show wpAny _ _ (if(((sIx items.size 0 lo:Nat):Int)==0&&(1:Int)==1&&(sIx items.size items.size hi-sIx items.size 0 lo)==items.size)=true then _ else _) _ _ s
 rw[if_neg hno,zRK]
 first
  |exact wpAny_bind (m:=Builtin.Tuple.tupleExact _) (wpAny_newObj_type (wpAny_pure ⟨_,rfl,wpAny_pure h⟩) htake)
  |exact wpAny_bind (m:=Builtin.Tuple.tupleExact _) (wpAny_newObj_type (wpAny_bind (wpAny_pure (wpAny_pure ⟨_,rfl,wpAny_pure h⟩))) htake)
  |exact wpAny_bind (wpAny_bind (m:=Builtin.Tuple.tupleExact _) (wpAny_newObj_type (wpAny_pure (wpAny_pure ⟨_,rfl,wpAny_pure h⟩)) htake))
  |exact wpAny_bind (wpAny_bind (m:=Builtin.Tuple.tupleExact _) (wpAny_newObj_type (wpAny_pure ⟨_,rfl,wpAny_pure h⟩) htake))
end
end HT
namespace L2
open PySem PySem.Spec PyProof.Rows
abbrev TO:=St->Hp->(Option Int->Hp->Prop)->Prop
def PO(X:Cx)(e:Option Expr)(t:TO):Prop :=
 ∀(pins:List (Addr×Obj)) (s:Shared) (σ:St) (H:Hp) (Q:Option Int->Hp->Prop),Inv X pins σ H s->t σ H Q ->
  wpAny (model X.prog X.w) X.A (evalPart e X.env) (λu s'=>∃o H',Inv X pins σ H' s'/\IsPart u o/\Q o H') X.xe s
def zU3:TO:=λ_ H Q=>Q none H
def yBH(t:TE):TO:=λσ H Q=>t σ H λx H1=>∃i,x=.int i/\Q (some i) H1
theorem zB6{ns:List Int}:∀{us:List Value},Vals (ns.map V.int) us->IntsAre us ns:=by
 induction ns with
 |nil=>intro us r;rw[List.map_nil] at r;cases r;exact .nil
 |cons n ns ih =>
  intro us r
  rw[List.map_cons] at r
  cases r with
  |cons r1 r2 =>
   obtain⟨t,e⟩:=r1
   subst e
   exact .cons n t (ih r2)
section
variable{X:Cx}{e:Expr}{te:TE}{lo hi:Option Expr}{tl th:TO}{pos p2:Pos}
theorem po_none:PO X none zU3:=by
 intro pins s σ H Q I h
 rw[evalPart_none]
 exact wpAny_pure ⟨none,H,I,.none,h⟩
theorem zU4(h:PE X e te):PO X (some e) (yBH te):=by
 intro pins s σ H Q I hw
 rw[evalPart_some]
 refine thn (h pins s σ H _ I hw) λu s1 ⟨x,H1,I1,r1,q1⟩=>?_
 obtain⟨i,rfl,q⟩:=q1
 obtain⟨t,rfl⟩:=r1
 exact⟨some i,H1,I1,.int i t,q⟩
def SlR(X:Cx)(r:V->Option Int->Option Int->Hp->VK->Prop):Prop :=
 ∀(pins:List (Addr×Obj)) (s:Shared) (σ:St) (H:Hp) (x:V) (v vl vu:Value) (lo hi:Option Int) (sl:Addr) (Q:VK),Inv X pins σ H s->RelV x v->s.heap.IsSliceOf sl vl vu .none->IsPart vl lo->IsPart vu hi->r x lo hi H Q ->
  ∃T id,typeLookup (.type T) "__getitem__"=pure (some (.builtin id))/\s.TypeIs v T/\wpAny (model X.prog X.w) X.A (getItem v (.ref sl)) (EP X pins σ Q) X.xe s
theorem SlR.or{r r':V->Option Int->Option Int->Hp->VK->Prop}(h:SlR X r)(h':SlR X r'):SlR X (λx lo hi H Q=>r x lo hi H Q\/r' x lo hi H Q):=by
 intro pins s σ H x v vl vu lo hi sl Q I rx hs pl pu q
 rcases q with q|q
 ·exact h pins s σ H x v vl vu lo hi sl Q I rx hs pl pu q
 ·exact h' pins s σ H x v vl vu lo hi sl Q I rx hs pl pu q
def tSl(r:V->Option Int->Option Int->Hp->VK->Prop)(te:TE)(tl th:TO):TE:=λσ H Q=>te σ H λx H1=>tl σ H1 λl H2=>th σ H2 λu H3=>r x l u H3 Q
theorem zRL{r:V->Option Int->Option Int->Hp->VK->Prop}(hr:SlR X r)(he:PE X e te)(hl:PO X lo tl)(hu:PO X hi th):PE X (.Subscript e (.Slice lo hi none p2) pos) (tSl r te tl th):=by
 intro pins s σ H Q I h
 refine Subscript_ (thn (he pins s σ H _ I h) λv s1 ⟨x,H1,I1,r1,q1⟩=>?_)
 refine wpAny_Slice (thn (hl pins s1 σ H1 _ I1 q1) λvl s2 ⟨l,H2,I2,pl,q2⟩=>thn (hu pins s2 σ H2 _ I2 q2) λvu s3 ⟨u,H3,I3,pu,q3⟩=>?_)
 rw[evalPart_none]
 refine wpAny_pure ?_
 have I4:Inv X pins σ H3 { s3 with heap:=s3.heap.push { cls:=.type "slice",data:=.fields #[vl,vu,.none] } }:=I3.kept (t':=s3.toks) λb ob q=>Heap.get?_push_of_some _ q
 obtain⟨T,id,hT,ht,hg⟩:=hr pins { s3 with heap:=s3.heap.push { cls:=.type "slice",data:=.fields #[vl,vu,.none] } } σ H3 x v vl vu l u s3.heap.objs.size Q I4 r1 (Heap.IsSliceOf.new ..) pl pu q3
 show wpAny (model X.prog X.w) X.A (subscriptTail e (.Slice lo hi none p2) v (.ref s3.heap.objs.size)) (EP X pins σ Q) X.xe { s3 with heap:=s3.heap.push { cls:=.type "slice",data:=.fields #[vl,vu,.none] } }
 exact tail_any (ops:=[.ref s3.heap.objs.size,v]) ht hT hg (by with_unfolding_all rfl)
noncomputable def zL7(xs:List V)(lo hi:Option Int):List V:=(xs.drop (HT.sIx xs.length 0 lo)).take (HT.sIx xs.length xs.length hi-HT.sIx xs.length 0 lo)
theorem zFH(xs:List V)(lo hi:Option Int):(zL7 xs lo hi).length<=xs.length:=by
 unfold zL7
 rw[List.length_take,List.length_drop]
 lia
def yDO(K:PySem.W.Frag):V->Option Int->Option Int->Hp->VK->Prop:=λx lo hi H Q=>∃a xs,x=.ref a/\SqT K H a xs /\
 ¬(HT.sIx xs.length 0 lo=0/\HT.sIx xs.length xs.length hi=xs.length)/\∀p,H p=none->Q (.ref p) (upd H p (.tup (zL7 xs lo hi)))
theorem zYM:SlR X (yDO X.K):=by
 intro pins s σ H x v vl vu lo hi sl Q I rx hs pl pu h
 obtain⟨a,xs,rfl,hx,hw,q⟩:=h
 cases rx
 obtain⟨its,r,ht,hz⟩:=I.tuple hx
 have hlen:its.toArray.size=xs.length:=by rw[List.size_toArray];exact r.length.symm
 refine⟨"tuple",_,PyProof.Rows.slot_tuple_getitem.lookup,ht.typeIs,?_⟩
 refine HT.getItem_tuple_cut ht hs pl pu (by rw[hlen];exact hw) ?_ (by rw[hlen];exact hz)
 rw[hlen]
 refine⟨.ref s.heap.objs.size,_,I.laid (t':=s.toks) (o:=.tup (zL7 xs lo hi)) (λb ob q=>Heap.get?_push_of_some _ q) (Nat.le_refl _) ?_,rfl,q _ (I.hok.fresh (Nat.le_refl _))⟩
 exact⟨Nat.le_trans (zFH xs lo hi) hz,_,(r.drop (HT.sIx xs.length 0 lo)).take (HT.sIx xs.length xs.length hi-HT.sIx xs.length 0 lo),IsTupP.new _ _⟩
def yCO(K:PySem.W.Frag):R2:=λx y H Q=>∃a b ns ms,x=.ref a/\y=.ref b/\SqT K H a (ns.map V.int)/\SqT K H b (ms.map V.int)/\Q (.bl (HT.lexLt ns ms)) H
theorem zYN(hu:X.A.units<cLine):OpR X (compareOp .Lt) (yCO X.K):=by
 intro pins s σ H x y v u Q I rx ry h
 obtain⟨a,b,ns,ms,rfl,rfl,ha,hb,q⟩:=h
 cases rx
 cases ry
 obtain⟨its,r1,p1,_⟩:=I.tuple ha
 obtain⟨its2,r2,p2,_⟩:=I.tuple hb
 have i1:IntsAre its.toArray.toList ns:=zB6 r1
 have i2:IntsAre its2.toArray.toList ms:=zB6 r2
 exact HT.lt_tupInts p1 p2 i1 i2 hu ⟨.bl (HT.lexLt ns ms),H,I,rfl,q⟩
theorem Vals.nil_iff{xs:List V}{us:List Value}(r:Vals xs us):us=[]↔xs=[]:=by
 cases r with
 |nil=>simp
 |cons _ _=>simp
end
noncomputable def ixN(n:Nat)(i:Int):Option Nat:=if 0<=i then(if i<n then some i.toNat else none) else if -(n:Int)<=i then some (i+n).toNat else none
noncomputable def atI{α:Type}(xs:List α)(i:Int):Option α:=(ixN xs.length i).bind λj=>xs[j]?
theorem zOO{n:Nat}{i:Int}{j:Nat}(h:ixN n i=some j):seqIndex? i n=some j/\j<n/\-(n:Int)<=i/\i<n:=by
 unfold ixN at h
 by_cases h0:0<=i
 ·rw[if_pos h0] at h
  by_cases h1:i<n
  ·rw[if_pos h1] at h
   have e:i.toNat=j:=Option.some.inj h
   exact⟨by rw[seqIndex_of h0 h1,e],by lia,by lia,h1⟩
  ·rw[if_neg h1] at h;cases h
 ·rw[if_neg h0] at h
  by_cases h1:-(n:Int)<=i
  ·rw[if_pos h1] at h
   have e:(i+n).toNat=j:=Option.some.inj h
   exact⟨by rw[seqIndex_neg (by lia) h1,e],by lia,h1,by lia⟩
  ·rw[if_neg h1] at h;cases h
theorem zKS{α:Type}{xs:List α}{i:Int}{v:α}(h:atI xs i=some v):∃j,seqIndex? i xs.length=some j/\xs[j]?=some v/\j<xs.length/\-(xs.length:Int)<=i/\i<xs.length:=by
 unfold atI at h
 cases e:ixN xs.length i with
 |none=>rw[e] at h;cases h
 |some j =>
  rw[e] at h
  obtain⟨h1,h2,h3,h4⟩:=zOO e
  exact⟨j,h1,h,h2,h3,h4⟩
theorem zKT{α:Type}{xs:List α}{j:Nat}{v:α}(h:xs[j]?=some v):atI xs (j:Int)=some v:=by
 have hj:j<xs.length:=(List.getElem?_eq_some_iff.mp h).1
 have e:ixN xs.length (j:Int)=some j:=by
  unfold ixN
  rw[if_pos (by lia),if_pos (by lia)];simp
 unfold atI;rw[e];exact h
theorem zRM{α:Type}(xs:List α)(v:α):atI (xs++[v]) (-1)=some v:=by
 have hl:(xs++[v]).length=xs.length+1:=by simp
 have e:ixN (xs++[v]).length (-1)=some xs.length:=by
  unfold ixN
  rw[hl,if_neg (by decide),if_pos (by lia)]
  congr 1
  lia
 unfold atI
 rw[e]
 show(xs++[v])[xs.length]?=some v
 simp
def zOP(b:Expr):Prop:=∀o i,subscripted b false o i=operate [o,i] (getItem o i)
def IxR(X:Cx)(r:R2):Prop :=
 ∀(value slice:Expr) (pins:List (Addr×Obj)) (s:Shared) (σ:St) (H:Hp) (x y:V) (v u:Value) (Q:VK),Inv X pins σ H s->RelV x v->RelV y u->r x y H Q ->
  subscripted slice false v u=operate [v,u] (getItem v u)->wpAny (model X.prog X.w) X.A (subscriptTail value slice v u) (EP X pins σ Q) X.xe s
def MtR(X:Cx)(id:String)(r:V->List V->Hp->VK->Prop):Prop :=
 ∀(pins:List (Addr×Obj)) (s:Shared) (σ:St) (H:Hp) (x:V) (xs:List V) (v:Value) (us:List Value) (Q:VK),Inv X pins σ H s->RelV x v->Vals xs us->r x xs H Q ->
  wpAny (model X.prog X.w) X.A (call (.builtin id) (v::us)) (EP X pins σ Q) X.xe s
section
variable{X:Cx}{a b:Expr}{ta tb:TE}{pos:Pos}
theorem IxR.or{r r':R2}(h:IxR X r)(h':IxR X r'):IxR X (λx y H Q=>r x y H Q\/r' x y H Q):=by
 intro value slice pins s σ H x y v u Q I rx ry q hs
 rcases q with q|q
 ·exact h value slice pins s σ H x y v u Q I rx ry q hs
 ·exact h' value slice pins s σ H x y v u Q I rx ry q hs
theorem zU5{r:R2}(hr:IxR X r)(ha:PE X a ta)(hb:PE X b tb)(hs:zOP b):PE X (.Subscript a b pos) (tOp r ta tb):=by
 intro pins s σ H Q I h
 exact Subscript_ (yBA ha hb I h λv u s2 x y H2 I2 rx ry q=>hr a b pins s2 σ H2 x y v u Q I2 rx ry q (hs _ _))
def yCP(K:PySem.W.Frag):R2:=λx y H Q=>∃p xs i v,x=.ref p/\y=.int i/\SqL K H p xs/\atI xs i=some v/\Q v H
def yCQ(K:PySem.W.Frag):R2:=λx y H Q=>∃p xs i v,x=.ref p/\y=.int i/\SqT K H p xs/\atI xs i=some v/\Q v H
def yCR:R2:=λx y H Q=>∃z i c,x=.str z/\y=.int i/\z.length<=sizeLine/\atI z.cps.toList i=some c/\Q (.str ⟨#[c]⟩) H
theorem ix_list:IxR X (yCP X.K):=by
 intro value slice pins s σ H x y v u Q I rx ry h hs
 obtain⟨p,xs,i,z,rfl,rfl,hq,he,q⟩:=h
 cases rx
 obtain⟨t,rfl⟩:=ry
 obtain⟨its,r,pl,hz⟩:=I.list hq
 obtain⟨j,h1,h2,h3,h4,h5⟩:=zKS he
 obtain⟨w,ew,rw'⟩:=r.get h2
 have hl:=r.length
 have hn:=zEN
 have fin:EP X pins σ Q w s:=⟨z,H,I,rw',q⟩
 by_cases h0:0<=i
 ·have hj:i.toNat=j:=by
   rw[seqIndex_of h0 h5] at h1
   exact Option.some.inj h1
  exact item_listR pl.isList h0 (by lia) (by rw[hj];simpa using ew) fin hs
 ·have hj:(i+(its.toArray.size:Int)).toNat=j:=by
   rw[seqIndex_neg (by lia) h4] at h1
   rw[List.size_toArray,<-hl]
   exact Option.some.inj h1
  exact subscriptTail_builtinR (x:=w) pl.isList.typeIs slot_list_getitem.lookup
   (wpAny_getItem_list_neg (Q:=λr s'=>r=w/\EP X pins σ Q r s') pl.isList (by lia) (by rw[List.size_toArray]<;>lia) (by lia) (by rw[hj];simpa using ew) ⟨rfl,fin⟩) hs
theorem ix_tup:IxR X (yCQ X.K):=by
 intro value slice pins s σ H x y v u Q I rx ry h hs
 obtain⟨p,xs,i,z,rfl,rfl,hq,he,q⟩:=h
 cases rx
 obtain⟨t,rfl⟩:=ry
 obtain⟨its,r,pl,hz⟩:=I.tuple hq
 obtain⟨j,h1,h2,h3,h4,h5⟩:=zKS he
 obtain⟨w,ew,rw'⟩:=r.get h2
 have hl:=r.length
 have hn:=zEN
 have fin:EP X pins σ Q w s:=⟨z,H,I,rw',q⟩
 exact subscriptTail_builtinR (x:=w) pl.typeIs slot_tuple_getitem.lookup
  (getItem_tuple (j:=j) (Q:=λr s'=>r=w/\EP X pins σ Q r s') pl (by lia) (by lia) (by rw[List.size_toArray,<-hl];exact h1) (by simpa using ew) ⟨rfl,fin⟩) hs
theorem zYO:IxR X yCR:=by
 intro value slice pins s σ H x y v u Q I rx ry h hs
 obtain⟨z,i,c,rfl,rfl,hz,he,q⟩:=h
 obtain⟨t,rfl⟩:=rx
 obtain⟨t',rfl⟩:=ry
 obtain⟨j,h1,h2,h3,h4,h5⟩:=zKS he
 have hl:z.cps.toList.length=z.length:=by simp[Str.length]
 rw[hl] at h1 h4 h5
 have hn:=zEN
 exact tail_any (typeIs_str s z t) slot_str_getitem.lookup (getItem_str (c:=c) (by
  have e1:decide (i < -(2 ^ 63:Int))=false:=decide_eq_false (by lia)
  have e2:decide (i>=2 ^ 63)=false:=decide_eq_false (by lia)
  rw[e1,e2,Bool.or_false]) (by rw[h1];simpa using h2) ⟨.str ⟨#[c]⟩,H,I.tok _,⟨_,rfl⟩,q⟩) hs
def rIx(K:PySem.W.Frag):R2:=λx y H Q=>yCP K x y H Q\/yCQ K x y H Q\/yCR x y H Q
theorem ix_seq:IxR X (rIx X.K):=ix_list.or (ix_tup.or zYO)
theorem zNE(its:List Value)(n j:Nat)(u:Value):Obj.mapSeq (·.setIfInBounds j u) { cls:=.type "list",data:=.seq its.toArray n }={ cls:=.type "list",data:=.seq (its.set j u).toArray n }:=by
 simp[Obj.mapSeq]
theorem Inv.lst{pins:List (Addr×Obj)}{σ:St}{H:Hp}{s:Shared}{p:Addr}{xs:List V}(I:Inv X pins σ H s)(h:H p=some (.lst xs)) :
  ∃(its:List Value) (n:Nat),Vals xs its/\s.heap.get? p=some { cls:=.type "list",data:=.seq its.toArray n }/\xs.length<=sizeLine:=by
 obtain⟨z,its,n,r,e⟩:=I.hok p _ h
 exact⟨its,n,r,e,z⟩
theorem Inv.lstUpd{pins:List (Addr×Obj)}{σ:St}{H:Hp}{s:Shared}{p:Addr}{xs ys:List V}{its its':List Value}{n n':Nat}{f:Obj->Obj}(I:Inv X pins σ H s)(h:H p=some (.lst xs))
  (ho:s.heap.get? p=some { cls:=.type "list",data:=.seq its.toArray n }) (hf:f { cls:=.type "list",data:=.seq its.toArray n }={ cls:=.type "list",data:=.seq its'.toArray n' }) (r:Vals ys its') (hz:ys.length<=sizeLine) (t:Nat) :
  Inv X pins σ (upd H p (.lst ys)) { s with heap:=s.heap.update p f,toks:=t }:=by
 have e:(s.heap.update p f).get? p=some { cls:=.type "list",data:=.seq its'.toArray n' }:=by
  rw[Heap.get?_update_self f ho (by rw[hf]<;>rfl),hf]
 refine I.write (x:=p) (e:=p) (by rw[h];trivial) (.inl rfl) (λb u hb q=>(Heap.get?_update_other _ _ (Ne.symm hb)).trans q) ⟨_,e⟩ ?_
 exact⟨hz,its',n',r,e⟩
def yBI:V->V->V->Hp->(Hp->Prop)->Prop:=λo i v H Q=>∃p xs k j,o=.ref p/\i=.int k/\H p=some (.lst xs)/\ixN xs.length k=some j/\Q (upd H p (.lst (xs.set j v)))
theorem zRN:yCI X yBI:=by
 intro pins s σ H o i v ov iv u Q I ro ri rv h
 obtain⟨p,xs,k,j,rfl,rfl,hp,hj,q⟩:=h
 cases ro
 obtain⟨t,rfl⟩:=ri
 obtain⟨its,n,r,ho,hz⟩:=I.lst hp
 obtain⟨h1,h2,h3,h4⟩:=zOO hj
 have hl:=r.length
 have hn:=zEN
 have I':Inv X pins σ (upd H p (.lst (xs.set j v))) { s with heap:=s.heap.update p (Obj.mapSeq (·.setIfInBounds j u)) } :=
  I.lstUpd hp ho (zNE its n j u) (r.set rv j) (by rw[List.length_set];exact hz) s.toks
 by_cases h0:0<=k
 ·have hk:k.toNat=j:=by
   rw[seqIndex_of h0 h4] at h1
   exact Option.some.inj h1
  exact PySem.W.ki_setAt ho h0 (by lia) (by rw[List.size_toArray,<-hl];exact h4) (by rw[hk];exact⟨_,I',q⟩)
 ·have hk:(k+(its.toArray.size:Int)).toNat=j:=by
   rw[seqIndex_neg (by lia) h3] at h1
   rw[List.size_toArray,<-hl]
   exact Option.some.inj h1
  exact PySem.W.ki_setBack ho (by lia) (by rw[List.size_toArray,<-hl];exact h3) (by lia) (by rw[hk];exact⟨_,I',q⟩)
theorem zIZ(lo hi:Option Int)(n:Nat):(sliceBounds lo hi none n).1=((HT.sIx n 0 lo:Nat):Int)/\(sliceBounds lo hi none n).2.1=((HT.sIx n n hi:Nat):Int)/\(sliceBounds lo hi none n).2.2=1:=by
 refine⟨?_,?_,rfl⟩
 ·cases lo with
  |none=>simp[sliceBounds,HT.sIx]
  |some i =>
   simp only[sliceBounds,HT.sIx,Option.getD_none,show(1:Int)>0 by decide,if_true]
   by_cases h:i<0
   ·simp only[h,if_true]<;>lia
   ·simp only[h,if_false]<;>lia
 ·cases hi with
  |none=>simp[sliceBounds,HT.sIx]
  |some i =>
   simp only[sliceBounds,HT.sIx,Option.getD_none,show(1:Int)>0 by decide,if_true]
   by_cases h:i<0
   ·simp only[h,if_true]<;>lia
   ·simp only[h,if_false]<;>lia
theorem zHF(its:List Value)(lo hi:Option Int):slicePick its.toArray lo hi none=((its.drop (HT.sIx its.length 0 lo)).take (HT.sIx its.length its.length hi-HT.sIx its.length 0 lo)).toArray:=by
 obtain⟨h1,h2,h3⟩:=zIZ lo hi its.toArray.size
 unfold slicePick
 rw[h1,h2,h3]
 simp only[sliceRange_one,pick_run,List.size_toArray]<;>rfl
def yDP(K:PySem.W.Frag):V->Option Int->Option Int->Hp->VK->Prop:=λx lo hi H Q=>∃a xs,x=.ref a/\SqL K H a xs/\∀p,H p=none->Q (.ref p) (upd H p (.lst (zL7 xs lo hi)))
theorem zU6:SlR X (yDP X.K):=by
 intro pins s σ H x v vl vu lo hi sl Q I rx hs pl pu h
 obtain⟨a,xs,rfl,hx,q⟩:=h
 cases rx
 obtain⟨its,r,ht,hz⟩:=I.list hx
 have hlen:=r.length
 refine⟨"list",_,slot_list_getitem.lookup,ht.isList.typeIs,?_⟩
 refine wpAny_getItem_list_slice ht.isList hs pl pu .none (by simp) ?_ (by rw[List.size_toArray]<;>lia)
 rw[zHF,<-hlen]
 refine⟨.ref s.heap.objs.size,_,I.laid (t':=s.toks) (o:=.lst (zL7 xs lo hi)) (λb ob q=>Heap.get?_push_of_some _ q) (Nat.le_refl _) ?_,rfl,q _ (I.hok.fresh (Nat.le_refl _))⟩
 exact⟨Nat.le_trans (zFH xs lo hi) hz,_,0,(r.drop (HT.sIx xs.length 0 lo)).take (HT.sIx xs.length xs.length hi-HT.sIx xs.length 0 lo),Heap.get?_push_size _ rfl⟩
theorem call_len_seq:CallR X (.builtin "len") (λxs H Q=>∃p ys,xs=[.ref p]/\(SqL X.K H p ys\/SqT X.K H p ys)/\Q (.int ys.length) H):=by
 intro pins s σ H xs us Q I r h
 obtain⟨p,ys,rfl,hq,q⟩:=h
 obtain⟨u,rfl,rx⟩:=zEW r
 cases rx
 have hn:=zEN
 rcases hq with hq|hq
 ·obtain⟨its,r',pl,hz⟩:=I.list hq
  have hlen:=r'.length
  exact Calls.call_len_list pl.isList (by simp only[List.size_toArray]<;>lia) ⟨.int ys.length,H,I.tok _,⟨s.toks+1,by rw[List.size_toArray,hlen]⟩,q⟩
 ·obtain⟨its,r',pl,hz⟩:=I.tuple hq
  have hlen:=r'.length
  exact len_tuple pl (by simp only[List.size_toArray]<;>lia) ⟨.int ys.length,H,I.tok _,⟨s.toks+1,by rw[List.size_toArray,hlen]⟩,q⟩
theorem call_len_str:CallR X (.builtin "len") (λxs H Q=>∃z,xs=[.str z]/\z.length<=sizeLine/\Q (.int z.length) H):=by
 intro pins s σ H xs us Q I r h
 obtain⟨z,rfl,hz,q⟩:=h
 obtain⟨u,rfl,t,rfl⟩:=zEW r
 have hn:=zEN
 exact len_str (by lia) ⟨.int z.length,H,I.tok _,⟨_,rfl⟩,q⟩
theorem CallR.or{f:Value}{r r':List V->Hp->VK->Prop}(h:CallR X f r)(h':CallR X f r'):CallR X f (λxs H Q=>r xs H Q\/r' xs H Q):=by
 intro pins s σ H xs us Q I rs q
 rcases q with q|q
 ·exact h pins s σ H xs us Q I rs q
 ·exact h' pins s σ H xs us Q I rs q
theorem call_list_of:CallR X (.type "list") (λxs H Q=>∃p ys,xs=[.ref p]/\(SqL X.K H p ys\/SqT X.K H p ys)/\∀l,H l=none->Q (.ref l) (upd H l (.lst ys))):=by
 intro pins s σ H xs us Q I r h
 obtain⟨p,ys,rfl,hq,q⟩:=h
 obtain⟨u,rfl,rx⟩:=zEW r
 cases rx
 have fin:∀(its:List Value),Vals ys its->ys.length<=sizeLine->∀(h':Heap) (c':Nat),(∀b o',s.heap.get? b=some o'->h'.get? b=some o') ->
   h'.get? s.heap.objs.size=some { cls:=.type "list",dict:=none,data:=.seq its.toArray c',slots:=#[] }->EP X pins σ Q (.ref s.heap.objs.size) { s with heap:=h' }:=λits r' hz h' c' kp e =>
  ⟨.ref s.heap.objs.size,_,I.laid (t':=s.toks) kp (Nat.le_refl _) (show ObjOk X.prog X.w _ h' _ (.lst ys) from⟨hz,its,c',r',e⟩),rfl,q _ (I.hok.fresh (Nat.le_refl _))⟩
 rcases hq with hq|hq
 ·obtain⟨its,r',pl,hz⟩:=I.list hq
  have hlen:=r'.length
  obtain⟨o,ho,hc,n,hd⟩:=pl.isList
  exact call_list_seq p (.inl rfl) ho hc hd (λh' c' kp e=>fin its r' hz h' c' kp e) (by simp only[List.size_toArray]<;>lia)
 ·obtain⟨its,r',pl,hz⟩:=I.tuple hq
  have hlen:=r'.length
  obtain⟨o,ho,hc,n,hd⟩:=pl
  exact call_list_seq p (.inr rfl) ho hc hd (λh' c' kp e=>fin its r' hz h' c' kp e) (by simp only[List.size_toArray]<;>lia)
theorem zHG:CallR X (.type "tuple") (λxs H Q=>∃p ys,xs=[.ref p]/\((SqL X.K H p ys/\∀l,H l=none->Q (.ref l) (upd H l (.tup ys)))\/(SqT X.K H p ys/\Q (.ref p) H))):=by
 intro pins s σ H xs us Q I r h
 obtain⟨p,ys,rfl,h⟩:=h
 obtain⟨u,rfl,rx⟩:=zEW r
 cases rx
 rcases h with⟨hq,q⟩|⟨hq,q⟩
 ·obtain⟨its,r',pl,hz⟩:=I.list hq
  have hlen:=r'.length
  refine call_tuple_list pl.isList (λh' kp=>?_) (by simp only[List.size_toArray]<;>lia)
  have I1:Inv X pins σ H { s with heap:=h' }:=I.kept (t':=s.toks) kp
  have I2:Inv X pins σ (upd H h'.objs.size (.tup ys)) { s with heap:=h'.push { cls:=.type "tuple",data:=.seq its.toArray } } :=
   I1.laid (t':=s.toks) (λb o e=>Heap.get?_push_of_some _ e) (Nat.le_refl _) (show ObjOk X.prog X.w _ _ _ (.tup ys) from⟨hz,its,r',IsTupP.new _ _⟩)
  exact⟨.ref h'.objs.size,_,I2,rfl,q _ (I1.hok.fresh (Nat.le_refl _))⟩
 ·obtain⟨its,r',pl,hz⟩:=I.tuple hq
  exact call_tuple_same pl ⟨.ref p,H,I,rfl,q⟩
def tyV(K:PySem.W.Frag)(T:String)(x:V)(H:Hp):Prop:=match x with
 |.str _=>T="str"
 |.int _=>T="int"
 |.ref p=>(T="list"/\∃xs,SqL K H p xs)\/(T="tuple"/\∃o,K.lookup p=some o/\o.cls=.type "tuple"/\o.dict=none) \/
   (T="dict"/\((∃kvs,H p=some (.dK kvs))\/∃kvs,H p=some (.dT kvs)))\/(T="set"/\∃S n,H p=some (.set S n))
 |_=>False
theorem zTW{pins:List (Addr×Obj)}{σ:St}{H:Hp}{s:Shared}{T:String}{x:V}{v:Value}(I:Inv X pins σ H s)(r:RelV x v)(ty:tyV X.K T x H) :
  s.TypeIs v T/\∀a,v=.ref a->∃ob,s.heap.get? a=some ob/\ob.dict=none:=by
 cases x with
 |str z =>
  obtain⟨t,rfl⟩:=r
  cases(show T="str" from ty)
  exact⟨typeIs_str s z t,λ_ e=>nomatch e⟩
 |int i =>
  obtain⟨t,rfl⟩:=r
  cases(show T="int" from ty)
  exact⟨typeIs_int s i t,λ_ e=>nomatch e⟩
 |ref p =>
  cases r
  rcases ty with⟨rfl,xs,hq⟩|⟨rfl,o,hk,hc,hd⟩|⟨rfl,hk⟩|⟨rfl,S,n,hk⟩
  ·obtain⟨its,_,pl,_⟩:=I.list hq
   refine⟨pl.isList.typeIs,λa e=>?_⟩
   cases e
   obtain⟨o,n,e,c,hd,_⟩:=pl
   exact⟨o,e,hd⟩
  ·refine⟨⟨o,I.kIn p o hk,hc⟩,λa e=>?_⟩
   cases e
   exact⟨o,I.kIn _ o hk,hd⟩
  ·have z:∃o,s.heap.get? p=some o/\o.ExactDict:=by
    rcases hk with⟨kvs,hk⟩|⟨kvs,hk⟩
    ·obtain⟨_,_,_,_,o,_,_,e,ex,_⟩:=I.hok p _ hk
     exact⟨o,e,ex⟩
    ·obtain⟨_,_,_,_,o,_,_,e,ex,_⟩:=I.hok p _ hk
     exact⟨o,e,ex⟩
   obtain⟨o,e,ex⟩:=z
   refine⟨⟨o,e,ex.1⟩,λa e2=>?_⟩
   cases e2
   exact⟨o,e,ex.2.1⟩
  ·obtain⟨o,_,_,_,e,ex,_⟩:=I.hok p _ hk
   refine⟨⟨o,e,ex.1⟩,λa e2=>?_⟩
   cases e2
   exact⟨o,e,ex.2.1⟩
 |_=>exact False.elim ty
def yDQ(K:PySem.W.Frag)(T:String)(r:V->List V->Hp->VK->Prop)(to:TE):TE:=λσ H Q=>to σ H λx H1=>tyV K T x H1/\r x [] H1 Q
def tBM(K:PySem.W.Frag)(T:String)(r:V->List V->Hp->VK->Prop)(to:TE)(t:TA):TE:=λσ H Q=>to σ H λx H1=>tyV K T x H1/\t σ H1 λxs H2=>r x xs H2 Q
variable{o e:Expr}{es:List Expr}{to:TE}{t:TA}{name:Str}{apos cpos:Pos}{T id:String}{r:V->List V->Hp->VK->Prop}
theorem zYP(pa:PlainAttrs T)(slot:Slot T name id)(hty:typeOf (.builtin id)=pure (.type "method_descriptor"))(hm:MtR X id r)(ho:PE X o to)
  (hbase:attributeBase o name X.env (eval o X.env)=eval o X.env:=by rfl) (hline:(apos.endLine==cpos.line)=true:=by rfl):PE X (.Call (.Attribute o name apos) [] [] cpos) (yDQ X.K T r to):=by
 intro pins s σ H Q I h
 refine wpAny_Call_method0_late hbase hline (thn (ho pins s σ H _ I h) λv s1 ⟨x,H1,I1,r1,ty,q1⟩=>?_)
 obtain⟨h1,h2⟩:=zTW I1 r1 ty
 exact⟨T,id,pa,slot,hty,h1,h2,Calls.callWith_builtin rfl (PySem.evalArgs_none (hm pins s1 σ H1 x [] v [] Q I1 r1 .nil q1))⟩
theorem zRO(pa:PlainAttrs T)(slot:Slot T name id)(hty:typeOf (.builtin id)=pure (.type "method_descriptor"))(hm:MtR X id r)(ho:PE X o to)(ha:PA X (e::es) t)
  (hbase:attributeBase o name X.env (eval o X.env)=eval o X.env:=by rfl)
  (hfew:((backTo cpos (starEach (e::es) X.env)).all (λx=>!x.1)&&(backToKw cpos (keywordEach [] X.env)).all (λx=>x.1.isSome)
   && decide ((e::es).length+([]:List Keyword).length+(if([]:List Keyword).isEmpty then 0 else 1)<30))=true:=by rfl)
  (hline:(apos.endLine==cpos.line)=true:=by rfl) (hs:starEach (e::es) X.env=(false,eval e X.env)::starEach es X.env:=by rfl) (hplain:(backTo cpos (starEach es X.env)).any (·.1)=false:=by rfl) :
  PE X (.Call (.Attribute o name apos) (e::es) [] cpos) (tBM X.K T r to t):=by
 intro pins s σ H Q I h
 refine wpAny_Call_method_late hbase hfew hline rfl (thn (ho pins s σ H _ I h) λv s1 ⟨x,H1,I1,r1,ty,q1⟩=>?_)
 obtain⟨h1,h2⟩:=zTW I1 r1 ty
 refine⟨T,id,pa,slot,hty,h1,h2,?_⟩
 have hA:=ha cpos pins s1 σ H1 _ I1 q1
 rw[hs] at hA ⊢
 refine Calls.callWith_builtin (by show(false||(backTo cpos (starEach es X.env)).any (·.1))=false;rw[hplain]<;>rfl) (Calls.evalArgs_plain ?_)
 exact thn hA λus s2 ⟨vs,H2,I2,r2,q2⟩=>hm pins s2 σ H2 x vs v us Q I2 r1 r2 q2
/- xs.append(e),list.index on a module's tuple .. are MtR facts of 06m -/
end
def MtM(X:Cx)(id:String)(r:V->List V->Hp->VK->Prop):Prop :=
 ∀(pins:List (Addr×Obj)) (s:Shared) (σ:St) (H:Hp) (x:V) (xs:List V) (v:Value) (us:List Value) (Q:VK),Inv X pins σ H s->RelV x v->Vals xs us->r x xs H Q ->
  wpAny (model X.prog X.w) X.A (call (.builtin id) (v::us)) (EP X pins σ Q) X.xe s
theorem Vals.one:∀{x:V} {us:List Value},Vals [x] us->∃u,us=[u]/\RelV x u
 |_,_,.cons r .nil=>⟨_,rfl,r⟩
theorem Vals.zero:∀{us:List Value},Vals [] us->us=[]
 |_,.nil=>rfl
theorem Vals.dropLast{xs:List V}{us:List Value}(h:Vals xs us):Vals xs.dropLast us.dropLast:=by
 induction h with
 |nil=>exact .nil
 |cons r t ih =>
  cases t with
  |nil=>exact .nil
  |cons q t'=>exact .cons r ih
theorem Vals.eraseIdx:∀{xs:List V} {us:List Value} (i:Nat),Vals xs us->Vals (xs.eraseIdx i) (us.eraseIdx i)
 |_,_,_,.nil=>.nil
 |_,_,0,.cons _ t=>t
 |_,_,i+1,.cons r t=>.cons r (Vals.eraseIdx i t)
theorem Vals.reverse{xs:List V}{us:List Value}(h:Vals xs us):Vals xs.reverse us.reverse:=by
 induction h with
 |nil=>exact .nil
 |cons r t ih=>rw[List.reverse_cons,List.reverse_cons];exact Vals.append ih (.cons r .nil)
theorem Vals.rep{xs:List V}{us:List Value}(h:Vals xs us):∀k:Nat,Vals (List.replicate k xs).flatten (List.replicate k us).flatten
 |0=>.nil
 |k+1=>by
  rw[List.replicate_succ,List.replicate_succ,List.flatten_cons,List.flatten_cons]
  exact Vals.append h (Vals.rep h k)
theorem zNF{α:Type}(l:List α):l.eraseIdx (l.length-1)=l.dropLast:=by
 induction l with
 |nil=>rfl
 |cons a r ih =>
  cases r with
  |nil=>rfl
  |cons b r =>
   have e:(a::b::r).length-1=((b::r).length-1)+1:=by
    have h1:(a::b::r).length=r.length+2:=rfl
    have h2:(b::r).length=r.length+1:=rfl
    lia
   rw[e,List.eraseIdx_cons_succ,ih]
   all_goals rfl
theorem zI0{α:Type}:∀(l:List α) (i:Nat),(l.eraseIdx i).length<=l.length
 |[],_=>Nat.le_refl _
 |_::_,0=>Nat.le_succ _
 |_::r,i+1=>Nat.succ_le_succ (zI0 r i)
theorem zI1(its:List Value):∀(k:Nat) (acc:List Value),
  List.foldl (λx1 x2=>x1++x2) acc.toArray (List.replicate k its.toArray)=(acc++(List.replicate k its).flatten).toArray
 |0,acc=>by simp
 |k+1,acc=>by
  have e:acc.toArray++its.toArray=(acc++its).toArray:=by simp
  have e2:(acc++its)++(List.replicate k its).flatten=acc++(List.replicate (k+1) its).flatten:=by
   rw[List.replicate_succ,List.flatten_cons,List.append_assoc]
  rw[<-e2,<-zI1 its k (acc++its),<-e,List.replicate_succ,List.foldl_cons]
section
variable{X:Cx}{pins:List (Addr×Obj)}{σ:St}{H:Hp}{s:Shared}{l b:Addr}{xs ys zs:List V}
theorem Inv.lset{its its':List Value}{n:Nat}{f:Array Value->Array Value}{t':Nat}(I:Inv X pins σ H s)(hH:H l=some (.lst xs))
  (e:s.heap.get? l=some { cls:=.type "list",data:=.seq its.toArray n }) (hf:f its.toArray=its'.toArray) (hv:Vals ys its') (hz:ys.length<=sizeLine) :
  Inv X pins σ (upd H l (.lst ys)) { s with heap:=s.heap.update l (Obj.mapSeq f),toks:=t' }:=by
 have q:=PySem.IsL.update e f
 rw[hf] at q
 refine I.write (x:=l) (e:=l) (by rw[hH];exact trivial) (.inl rfl) (λb' u hb hu=>(Heap.get?_update_other s.heap (Obj.mapSeq f) (Ne.symm hb)).trans hu) ⟨_,q⟩ ?_
 exact⟨hz,its',_,hv,q⟩
theorem Inv.lnew{its:List Value}{t':Nat}(I:Inv X pins σ H s)(hv:Vals ys its)(hz:ys.length<=sizeLine) :
  Inv X pins σ (upd H s.heap.objs.size (.lst ys)) { s with heap:=s.heap.push { cls:=.type "list",data:=.seq its.toArray },toks:=t' } :=
 I.laid (λ_ _ q=>Heap.get?_push_of_some _ q) (Nat.le_refl _) ⟨hz,its,0,hv,Heap.get?_push_size _ rfl⟩
theorem Inv.fresh(I:Inv X pins σ H s):H s.heap.objs.size=none:=I.hok.fresh (Nat.le_refl _)
theorem Inv.lstM(I:Inv X pins σ H s)(hH:H l=some (.lst xs)):xs.length<=sizeLine/\∃(its:List Value) (n:Nat),Vals xs its/\xs.length=its.length/\s.heap.get? l=some { cls:=.type "list",data:=.seq its.toArray n }:=by
 obtain⟨z,its,n,r,e⟩:=I.hok l _ hH
 exact⟨z,its,n,r,r.length,e⟩
theorem zRP{n:Nat}(h:n<=sizeLine):Builtin.List.listTooLong n=false:=by
 unfold Builtin.List.listTooLong
 exact decide_eq_false (by lia)
end
section
variable{X:Cx}
def zKU:V->List V->Hp->VK->Prop:=λx vs H Q=>∃l xs y,x=.ref l/\vs=[y]/\H l=some (.lst xs)/\xs.length<sizeLine/\Q .non (upd H l (.lst (xs++[y])))
theorem zD4:MtM X "list.append" zKU:=by
 intro pins s σ H x vs v us Q I rx rv h
 obtain⟨l,xs,y,rfl,rfl,hH,hz,q⟩:=h
 cases rx
 obtain⟨u,rfl,ru⟩:=rv.one
 obtain⟨z,its,n,r,hl,e⟩:=I.lstM hH
 refine call_meets F.slot_list_append ⟨_,e,rfl⟩ F.entry_list_append (F.args_list_append_2 _ _) (PySem.list_append l its.toArray n u (by rw[List.size_toArray];lia)) ⟨e,?_⟩
 refine⟨.non,_,I.lset (its':=its++[u]) hH e (by simp) (r.append (.cons ru .nil)) ?_,rfl,q⟩
 rw[List.length_append,List.length_singleton]
 lia
def yCS:V->List V->Hp->VK->Prop:=λx vs H Q=>∃l xs y,x=.ref l/\vs=[]/\H l=some (.lst xs)/\xs[xs.length-1]?=some y/\Q y (upd H l (.lst xs.dropLast))
theorem zYQ:MtM X "list.pop" yCS:=by
 intro pins s σ H x vs v us Q I rx rv h
 obtain⟨l,xs,y,rfl,rfl,hH,hy,q⟩:=h
 cases rx
 have hus:=rv.zero
 subst hus
 obtain⟨z,its,n,r,hl,e⟩:=I.lstM hH
 obtain⟨u,hu,ru⟩:=r.get hy
 have hy':its.toArray[its.toArray.size-1]?=some u:=by
  show its.toArray[its.length-1]?=some u
  rw[<-Array.getElem?_toList,<-hl]
  exact hu
 refine call_meets F.slot_list_pop ⟨_,e,rfl⟩ F.entry_list_pop (F.args_list_pop_1 _) (MeetsSeq.list_pop_last l its.toArray n u hy' (by rw[List.size_toArray];lia)) ⟨e,?_⟩
 refine⟨y,_,I.lset (its':=its.dropLast) hH e ?_ r.dropLast ?_,ru,q⟩
 ·show its.toArray.eraseIdxIfInBounds (its.toArray.size-1)=its.dropLast.toArray
  rw[List.size_toArray,List.eraseIdxIfInBounds_toArray,zNF]
 ·rw[List.length_dropLast]
  lia
def zTX:V->List V->Hp->VK->Prop:=λx vs H Q=>∃l xs i k y,x=.ref l/\vs=[.int i]/\H l=some (.lst xs)/\-(2 ^ 63)<=i/\i<2 ^ 63/\seqIndex? i xs.length=some k/\xs[k]?=some y/\Q y (upd H l (.lst (xs.eraseIdx k)))
theorem zRQ:MtM X "list.pop" zTX:=by
 intro pins s σ H x vs v us Q I rx rv h
 obtain⟨l,xs,i,k,y,rfl,rfl,hH,h1,h2,hk,hy,q⟩:=h
 cases rx
 obtain⟨u,rfl,ru⟩:=rv.one
 obtain⟨t,rfl⟩:=ru
 obtain⟨z,its,n,r,hl,e⟩:=I.lstM hH
 obtain⟨w,hw,rw'⟩:=r.get hy
 refine call_meets F.slot_list_pop ⟨_,e,rfl⟩ F.entry_list_pop (F.args_list_pop_2 _ _)
  (MeetsSeq.list_pop_at l its.toArray n i t k w (fitsIndex_both h1 h2) (by rw[List.size_toArray,<-hl];exact hk) (by rw[<-Array.getElem?_toList];exact hw) (by rw[List.size_toArray];lia)) ⟨e,?_⟩
 refine⟨y,_,I.lset (its':=its.eraseIdx k) hH e ?_ (r.eraseIdx k) ?_,rw',q⟩
 ·show its.toArray.eraseIdxIfInBounds k=(its.eraseIdx k).toArray
  rw[List.eraseIdxIfInBounds_toArray]
 ·have:=zI0 xs k
  lia
def yDR:R2:=λx y H Q=>∃l k xs,x=.ref l/\y=.int k/\H l=some (.lst xs)/\-(2 ^ 63)<=k/\k<2 ^ 63/\xs.length * k.toNat<=sizeLine /\
 ∀p,H p=none->Q (.ref p) (upd H p (.lst (List.replicate k.toNat xs).flatten))
theorem zU7{α:Type}(xs:List α)(k:Nat):(List.replicate k xs).flatten.length=k * xs.length:=by
 induction k with
 |zero=>simp
 |succ k ih=>rw[List.replicate_succ,List.flatten_cons,List.length_append,ih,Nat.succ_mul,Nat.add_comm]
theorem zYR:OpR X (binaryOp .Mult) yDR:=by
 intro pins s σ H x y v u Q I rx ry h
 obtain⟨l,k,xs,rfl,rfl,hH,h1,h2,hz,q⟩:=h
 cases rx
 obtain⟨t,rfl⟩:=ry
 obtain⟨z,its,n,r,hl,e⟩:=I.lstM hH
 have hlen:its.toArray.size * k.toNat<=sizeLine:=by rw[List.size_toArray,<-hl];exact hz
 have hcap:¬its.toArray.size * k.toNat>(2 ^ 63-1) / 8:=by
  have:(sizeLine:Nat)<=(2 ^ 63-1) / 8:=by decide
  lia
 have hfit:¬(!Builtin.List.listFitsIndex k)=true:=by
  rw[fitsIndex_both h1 h2]
  exact Bool.false_ne_true
 have hlong:¬Builtin.List.listTooLong (its.toArray.size * k.toNat)=true:=by
  rw[zRP hlen]
  exact Bool.false_ne_true
 have hnew:List.foldl (λx1 x2=>x1++x2) #[] (List.replicate (if its.toArray.isEmpty=true then 0 else k.toNat) its.toArray)=(List.replicate k.toNat its).flatten.toArray:=by
  have f0:∀m:Nat,List.foldl (λx1 x2=>x1++x2) #[] (List.replicate m its.toArray)=(List.replicate m its).flatten.toArray:=λm=>by
   have:=zI1 its m []
   rw[List.nil_append] at this
   exact this
  rw[f0]
  cases its with
  |nil=>simp
  |cons a r'=>rw[if_neg (by simp)]
 refine wpAny_binaryOp_repeat_ref (T:="list") (U:="int") (by decide) ⟨_,e,rfl⟩ (λs'=>typeIs_int s' k t) noFill_list_mul F.fills_int_mul F.slot_int_rmul repeat_list F.slot_int_index.lookup
  (call_meets F.slot_int_rmul (typeIs_int s k t) F.entry_int_rmul (F.args_int_rmul_2 _ _) (int___rmul___int_list k t l its.toArray n)
   ⟨e,rfl,⟨_,e,rfl⟩,call_meets F.slot_list_mul ⟨_,e,rfl⟩ F.entry_list_mul (F.args_list_mul_2 _ _) (AutoListH.list___mul___list_int_3 l its.toArray n k t hfit hcap hlong) ⟨e,?_⟩⟩)
 rw[hnew]
 exact⟨.ref _,_,I.lnew (t':=s.toks) (r.rep k.toNat) (by rw[zU7,Nat.mul_comm];exact hz),rfl,q _ I.fresh⟩
end
section
variable{prog:Program}{w:World}{A:Around}{E:Value->Shared->Prop}{s:Shared}
end
section
variable{X:Cx}
end
section
variable{κ:Type}[DecidableEq κ]
noncomputable def zE6(kvs:List (κ×V))(k:κ):Option V:=(kvs.find? λkv=>decide (kv.1=k)).map (·.2)
noncomputable def zEX(kvs:List (κ×V))(k:κ)(v:V):List (κ×V) :=
 if(kvs.any λkv=>decide (kv.1=k))=true then kvs.map (λkv=>if kv.1=k then(kv.1,v) else kv) else kvs++[(k,v)]
theorem zHH{p:κ×V}{r:List (κ×V)}{k:κ}(e:p.1=k):zE6 (p::r) k=some p.2:=by simp[zE6,List.find?_cons,e]
theorem zHI{p:κ×V}{r:List (κ×V)}{k:κ}(e:¬p.1=k):zE6 (p::r) k=zE6 r k:=by simp[zE6,List.find?_cons,e]
theorem zL8(k:κ):∀kvs:List (κ×V),(kvs.any λkv=>decide (kv.1=k))=(zE6 kvs k).isSome
 |[]=>rfl
 |p::r=>by
  rw[List.any_cons]
  by_cases e:p.1=k
  ·simp only[zHH e,decide_eq_true e,Bool.true_or,Option.isSome_some]
  ·rw[zHI e,decide_eq_false e,Bool.false_or];exact zL8 k r
theorem zCY(kvs:List (κ×V))(k:κ)(v:V):(zEX kvs k v).length<=kvs.length+1:=by
 unfold zEX
 split
 ·rw[List.length_map];lia
 ·rw[List.length_append,List.length_cons,List.length_nil];lia
theorem RelO.isSome_eq{o:Option V}{u:Option Value}(r:RelO o u):o.isSome=u.isSome:=by
 cases o with
 |none=>cases u with
  |none=>rfl
  |some _=>exact(show False from r).elim
 |some _=>cases u with
  |none=>exact(show False from r).elim
  |some _=>rfl
theorem RelO.getD{o:Option V}{u:Option Value}{d:V}{d':Value}(r:RelO o u)(rd:RelV d d'):RelV (o.getD d) (u.getD d'):=by
 cases o with
 |none=>cases u with
  |none=>exact rd
  |some _=>exact(show False from r).elim
 |some _=>cases u with
  |none=>exact(show False from r).elim
  |some _=>exact r
theorem KV.val{kvs:List (κ×V)}{vs:List (κ×Value)}(r:KV kvs vs)(k:κ):RelO (zE6 kvs k) (valueAt vs k):=by
 unfold KV at r
 induction r with
 |nil=>exact True.intro
 |@cons p q ps qs h t ih =>
  obtain⟨h1,h2⟩:=h
  by_cases e:p.1=k
  ·have e':q.1=k:=h1.symm.trans e
   have b:valueAt (q::qs) k=some q.2:=by simp[valueAt,List.find?_cons,e']
   rw[zHH e,b];exact h2
  ·have e':¬q.1=k:=λz=>e (h1.trans z)
   have b:valueAt (q::qs) k=valueAt qs k:=by simp[valueAt,List.find?_cons,e']
   rw[zHI e,b];exact ih
theorem KV.any{kvs:List (κ×V)}{vs:List (κ×Value)}(r:KV kvs vs)(k:κ):(kvs.any λkv=>decide (kv.1=k))=vs.any λkv=>decide (kv.1=k):=by
 unfold KV at r
 induction r with
 |nil=>rfl
 |cons h t ih=>rw[List.any_cons,List.any_cons,ih,h.1]
theorem KV.repl{kvs:List (κ×V)}{vs:List (κ×Value)}(r:KV kvs vs)(k:κ){y:V}{u:Value}(ry:RelV y u) :
  KV (kvs.map λkv=>if kv.1=k then(kv.1,y) else kv) (vs.map λkv=>if kv.1=k then(kv.1,u) else kv):=by
 unfold KV at r ⊢
 induction r with
 |nil=>exact .nil
 |@cons p q ps qs h t ih =>
  rw[List.map_cons,List.map_cons]
  refine .cons ?_ ih
  obtain⟨h1,h2⟩:=h
  by_cases e:p.1=k
  ·rw[if_pos e,if_pos (h1.symm.trans e)];exact⟨h1,ry⟩
  ·rw[if_neg e,if_neg (λz=>e (h1.trans z))];exact⟨h1,h2⟩
theorem KV.put{kvs:List (κ×V)}{vs:List (κ×Value)}(r:KV kvs vs)(k:κ){y:V}{u:Value}(ry:RelV y u):KV (zEX kvs k y) (stored vs k u):=by
 unfold zEX stored
 rw[r.any k]
 by_cases e:(vs.any λkv=>decide (kv.1=k))=true
 ·rw[if_pos e,if_pos e];exact r.repl k ry
 ·rw[if_neg e,if_neg e];exact Paired.snoc r ⟨rfl,ry⟩
theorem KV.keys{kvs:List (κ×V)}{vs:List (κ×Value)}(r:KV kvs vs):kvs.map (·.1)=vs.map (·.1):=by
 unfold KV at r
 induction r with
 |nil=>rfl
 |cons h t ih=>rw[List.map_cons,List.map_cons,ih,h.1]
theorem KV.length{kvs:List (κ×V)}{vs:List (κ×Value)}(r:KV kvs vs):kvs.length=vs.length:=Paired.length r
end
theorem zI2{P:Program}{w:World}{k:Key}{u:Value}(r:RelV (kV k) u):(zA1 P w).is k u=true:=by
 cases k with
 |inl i=>obtain⟨t,e⟩:=(show ∃t,u=Value.int i t from r);subst e;exact zKO P w i t
 |inr x=>obtain⟨t,e⟩:=(show ∃t,u=Value.str x t from r);subst e;exact zKP P w x t
theorem zI3{P:Program}{w:World}:∀{ks:List Key} {us:List Value},Vals (ks.map kV) us->ItemsAre (zA1 P w) ks us
 |[],_,r=>by rw[List.map_nil] at r;cases r;exact .nil
 |k::ks,_,r=>by
  rw[List.map_cons] at r
  cases r with
  |cons h t=>exact .cons (zI2 h) (zI3 t)
abbrev KT(H:Hp):List (List Key×V)->List (List Key×Addr×Value)->Prop:=Paired λp q=>p.1=q.1/\H q.2.1=some (.tup (p.1.map kV))/\RelV p.2 q.2.2
theorem KT.val{H:Hp}{kvs:List (List Key×V)}{xs:List (List Key×Addr×Value)}(r:KT H kvs xs)(k:List Key):RelO (zE6 kvs k) ((atKey xs k).map (·.2)):=by
 induction r with
 |nil=>exact True.intro
 |@cons p q ps qs h t ih =>
  obtain⟨h1,_,h2⟩:=h
  by_cases e:p.1=k
  ·have e':q.1=k:=h1.symm.trans e
   have b:atKey (q::qs) k=some q.2:=by simp[atKey,List.find?_cons,e']
   rw[zHH e,b];exact h2
  ·have e':¬q.1=k:=λz=>e (h1.trans z)
   have b:atKey (q::qs) k=atKey qs k:=by simp[atKey,List.find?_cons,e']
   rw[zHI e,b];exact ih
theorem KT.repl{H:Hp}{kvs:List (List Key×V)}{xs:List (List Key×Addr×Value)}(r:KT H kvs xs)(k:List Key){y:V}{u:Value}(ry:RelV y u) :
  KT H (kvs.map λkv=>if kv.1=k then(kv.1,y) else kv) (xs.map (putAt k u)):=by
 induction r with
 |nil=>exact .nil
 |@cons p q ps qs h t ih =>
  rw[List.map_cons,List.map_cons]
  refine .cons ?_ ih
  obtain⟨h1,h2,h3⟩:=h
  unfold putAt
  by_cases e:p.1=k
  ·rw[if_pos e,if_pos (h1.symm.trans e)];exact⟨h1,h2,ry⟩
  ·rw[if_neg e,if_neg (λz=>e (h1.trans z))];exact⟨h1,h2,h3⟩
theorem KT.put{H:Hp}{kvs:List (List Key×V)}{xs:List (List Key×Addr×Value)}(r:KT H kvs xs)(k:List Key){b:Addr}{y:V}{u:Value}(hb:H b=some (.tup (k.map kV)))(ry:RelV y u) :
  KT H (zEX kvs k y) (storedH xs k b u):=by
 have e:(kvs.any λkv=>decide (kv.1=k))=(atKey xs k).isSome:=by
  rw[zL8,(r.val k).isSome_eq,Option.isSome_map]
 unfold zEX storedH
 rw[e]
 by_cases q:(atKey xs k).isSome=true
 ·rw[if_pos q,if_pos q];exact r.repl k ry
 ·rw[if_neg q,if_neg q];exact Paired.snoc r ⟨rfl,hb,ry⟩
theorem KT.keeps{H H':Hp}{kvs:List (List Key×V)}{xs:List (List Key×Addr×Value)}(r:KT H kvs xs)(ht:∀b ys,H b=some (.tup ys)->H' b=some (.tup ys)):KT H' kvs xs :=
 Paired.mapP r λ_ _ z=>⟨z.1,ht _ _ z.2.1,z.2.2⟩
section
variable{P:Program}{w:World}{H:Hp}{h:Heap}{a:Addr}
theorem zYS{u:HO}(ok:HOk P w H h)(e:Rd H a u):ObjOk P w H h a u:=e.ok ok
theorem zHJ{kvs:List (Key×V)}(ok:HOk P w H h)(e:Rd H a (.dK kvs)):kvs.length<=sizeLine/\(a==sysModules)=false/\∃vs,KV kvs vs/\h.DictOf (zA1 P w) a vs :=
 show ObjOk P w H h a (.dK kvs) from zYS ok e
theorem zU8{kvs:List (Key×V)}(ok:HOk P w H h)(e:H a=some (.dK kvs)):kvs.length<=sizeLine/\(a==sysModules)=false/\∃vs,KV kvs vs/\h.DictOf (zA1 P w) a vs:=zHJ ok (.inl e)
theorem zGL{ks:List Key}(ok:HOk P w H h)(e:H a=some (.tup (ks.map kV))):(tupleKind (zA1 P w)).is h ks a:=by
 obtain⟨_,its,r,o,h1,h2,_,n,h3⟩:=(show ObjOk P w H h a (.tup (ks.map kV)) from ok a _ e)
 exact⟨o,its.toArray,n,h1,h2,h3,by simpa using zI3 r⟩
theorem zKV{kvs:List (List Key×V)}(ok:HOk P w H h)(e:Rd H a (.dT kvs)):kvs.length<=sizeLine/\(a==sysModules)=false /\
  ∃xs,KT H kvs xs/\h.DictOfH (tupleKind (zA1 P w)) a xs:=by
 obtain⟨z,y,xs,r,o,es,ep,h1,h2,h3,h4,h5⟩:=(show ObjOk P w H h a (.dT kvs) from zYS ok e)
 refine⟨z,y,xs,r,o,es,ep,h1,h2,h3,h4,λx hx=>?_,h5⟩
 have all:∀{l:List (List Key×V)} {m:List (List Key×Addr×Value)},KT H l m->∀x∈m,(tupleKind (zA1 P w)).is h x.1 x.2.1:=by
  intro l m q
  induction q with
  |nil=>intro x hx;exact nomatch hx
  |@cons p q ps qs hq t ih =>
   intro x hx
   rcases List.mem_cons.mp hx with e|hx
   ·subst e
    exact zGL ok (by rw[<-hq.1];exact hq.2.1)
   ·exact ih x hx
 exact all r x hx
theorem yBJ{kvs:List (List Key×V)}(ok:HOk P w H h)(e:H a=some (.dT kvs)):kvs.length<=sizeLine/\(a==sysModules)=false /\
  ∃xs,KT H kvs xs/\h.DictOfH (tupleKind (zA1 P w)) a xs:=zKV ok (.inl e)
end
def zRR(H:Hp)(a:Addr)(y:V)(r:Option V):Prop :=
 (∃kvs k,Rd H a (.dK kvs)/\y=kV k/\r=zE6 kvs k)\/∃kvs k b,Rd H a (.dT kvs)/\y=.ref b/\H b=some (.tup (k.map kV))/\r=zE6 kvs k
def DPut(H:Hp)(a:Addr)(y v:V)(H':Hp):Prop :=
 (∃kvs k,H a=some (.dK kvs)/\y=kV k/\kvs.length<sizeLine/\H'=upd H a (.dK (zEX kvs k v))) \/
 ∃kvs k b,H a=some (.dT kvs)/\y=.ref b/\H b=some (.tup (k.map kV))/\kvs.length<sizeLine/\H'=upd H a (.dT (zEX kvs k v))
theorem DPut.k{H:Hp}{a:Addr}{kvs:List (Key×V)}{k:Key}{v:V}(e:H a=some (.dK kvs))(hl:kvs.length<sizeLine):DPut H a (kV k) v (upd H a (.dK (zEX kvs k v))):=.inl ⟨kvs,k,e,rfl,hl,rfl⟩
theorem DPut.t{H:Hp}{a b:Addr}{kvs:List (List Key×V)}{k:List Key}{v:V}(e:H a=some (.dT kvs))(eb:H b=some (.tup (k.map kV)))(hl:kvs.length<sizeLine) :
  DPut H a (.ref b) v (upd H a (.dT (zEX kvs k v))):=.inr ⟨kvs,k,b,e,rfl,eb,hl,rfl⟩
section
variable{X:Cx}{pins:List (Addr×Obj)}{σ:St}{H:Hp}{s:Shared}{a:Addr}{y v:V}{u r:Value}{o:Option V}{A:Around}{E:Value->Shared->Prop}
theorem Inv.big(I:Inv X pins σ H s):sysModules<s.heap.objs.size:=by
 have h:mainGlobals<s.heap.objs.size:=(I.mod.glob.keeps I.bk).lt
 exact Nat.lt_trans (by decide) h
theorem zOQ{Q:Value->Shared->Prop}(hu:A.units+1<cLine)(I:Inv X pins σ H s)(g:zRR H a y (some v))(ry:RelV y u)(h:∀w' s',Inv X pins σ H s'->RelV v w'->Q w' s') :
  wpAny (model X.prog X.w) A (getItem (.ref a) u) Q E s:=by
 rcases g with⟨kvs,k,e,ey,l⟩|⟨kvs,k,b,e,ey,eb,l⟩
 ·subst ey
  obtain⟨z,hd,vs,rel,dd⟩:=zHJ I.hok e
  obtain⟨w',hw,rw'⟩:=RelO.some_of (v:=v) (o:=valueAt vs k) (by rw[l];exact rel.val k)
  exact wpAny_getItem_of (zI2 ry) dd.mapOf hw (h w' _ (I.tok _) rw')
 ·subst ey
  cases(show u=Value.ref b from ry)
  obtain⟨z,hd,xs,rel,dd⟩:=zKV I.hok e
  obtain⟨w',hw,rw'⟩:=RelO.some_of (v:=v) (o:=(atKey xs k).map (·.2)) (by rw[l];exact rel.val k)
  obtain⟨p,hp,hp2⟩:=Option.map_eq_some_iff.mp hw
  refine wpAny_getItem_heap (tupleKind_room_in1 hu) (zGL I.hok eb) dd hp ?_
  rw[hp2]
  exact h w' _ (I.tok _) rw'
theorem yDS{Q:Value->Shared->Prop}(hu:A.units+1<cLine)(I:Inv X pins σ H s)(g:zRR H a y o)(ry:RelV y u)(h:∀s',Inv X pins σ H s'->Q (.bool o.isSome) s') :
  wpAny (model X.prog X.w) A (compareOp .In u (.ref a)) Q E s:=by
 rcases g with⟨kvs,k,e,ey,l⟩|⟨kvs,k,b,e,ey,eb,l⟩
 ·subst ey
  obtain⟨z,hd,vs,rel,dd⟩:=zHJ I.hok e
  refine wpAny_in_of (zI2 ry) hd dd.mapOf ?_
  rw[<-(rel.val k).isSome_eq,<-l]
  exact h _ (I.tok _)
 ·subst ey
  cases(show u=Value.ref b from ry)
  obtain⟨z,hd,xs,rel,dd⟩:=zKV I.hok e
  refine wpAny_in_heap (tupleKind_room_in1 hu) (zGL I.hok eb) hd dd ?_
  have q:=(rel.val k).isSome_eq
  rw[Option.isSome_map] at q
  rw[<-q,<-l]
  exact h _ (I.tok _)
theorem zU9{Q:Value->Shared->Prop}(hu:A.units+1<cLine)(I:Inv X pins σ H s)(g:zRR H a y o)(ry:RelV y u)(h:∀s',Inv X pins σ H s'->Q (.bool (!o.isSome)) s') :
  wpAny (model X.prog X.w) A (compareOp .NotIn u (.ref a)) Q E s:=by
 rcases g with⟨kvs,k,e,ey,l⟩|⟨kvs,k,b,e,ey,eb,l⟩
 ·subst ey
  obtain⟨z,hd,vs,rel,dd⟩:=zHJ I.hok e
  refine wpAny_notIn_of (zI2 ry) hd dd.mapOf ?_
  rw[<-(rel.val k).isSome_eq,<-l]
  exact h _ (I.tok _)
 ·subst ey
  cases(show u=Value.ref b from ry)
  obtain⟨z,hd,xs,rel,dd⟩:=zKV I.hok e
  refine wpAny_notIn_heap (tupleKind_room_in1 hu) (zGL I.hok eb) hd dd ?_
  have q:=(rel.val k).isSome_eq
  rw[Option.isSome_map] at q
  rw[<-q,<-l]
  exact h _ (I.tok _)
theorem zHK{h':Heap}{t':Nat}{ob:HO}(I:Inv X pins σ H s)(mu:Mut (H a))(hs:Heap.SameBut a s.heap h')(he:∃q,h'.get? a=some q)(new:ObjOk X.prog X.w (upd H a ob) h' a ob) :
  Inv X pins σ (upd H a ob) { s with heap:=h',toks:=t' } :=
 I.write (x:=a) (e:=a) mu (.inl rfl) (λb q hb z=>(hs.2 b hb).trans z) he new
theorem zOR{P:Program}{w:World}{H':Hp}{h':Heap}{kvs:List (Key×V)}{vs:List (Key×Value)}(z:kvs.length<=sizeLine)(hd:(a==sysModules)=false)(rel:KV kvs vs)(dd:h'.DictOf (zA1 P w) a vs) :
  ObjOk P w H' h' a (.dK kvs):=⟨z,hd,vs,rel,dd⟩
theorem zOS{H':Hp}{Q:Unit->Shared->Prop}(hu:A.units+1<cLine)(I:Inv X pins σ H s)(g:DPut H a y v H')(ry:RelV y u)(rv:RelV v r)(h:∀s',Inv X pins σ H' s'->Q () s') :
  wpAny (model X.prog X.w) A (setItem (.ref a) u r) Q E s:=by
 rcases g with⟨kvs,k,e,ey,l,eH⟩|⟨kvs,k,b,e,ey,eb,l,eH⟩
 ·subst ey eH
  obtain⟨z,hd,vs,rel,dd⟩:=zU8 I.hok e
  have hz:vs.length<=sizeLine:=by rw[<-rel.length];exact z
  have hl:(zEX kvs k v).length<=sizeLine:=by have:=zCY kvs k v;lia
  refine wpAny_setItem_pairs (hsz:=hz) (zI2 ry) dd λh' dd' hs=>h _ ?_
  have he:∃q,h'.get? a=some q:=let ⟨q,_,_,hq,_⟩:=dd';⟨q,hq⟩
  exact zHK I (by rw[e];exact True.intro) hs he (zOR hl hd (rel.put k rv) dd')
 ·subst ey eH
  cases(show u=Value.ref b from ry)
  obtain⟨z,hd,xs,rel,dd⟩:=yBJ I.hok e
  have hz:xs.length<=sizeLine:=by rw[<-Paired.length rel];exact z
  have hl:(zEX kvs k v).length<=sizeLine:=by have:=zCY kvs k v;lia
  refine wpAny_setItem_heap (hsz:=hz) (tupleKind_room_in1 hu) (zGL I.hok eb) dd λh' dd' hs=>h _ ?_
  obtain⟨q,es,ep,hq,h2,h3,h4,_,h5⟩:=dd'
  refine zHK I (by rw[e];exact True.intro) hs ⟨q,hq⟩ ⟨hl,hd,_,(rel.put k eb rv).keeps λc ys ec=>?_,q,es,ep,hq,h2,h3,h4,h5⟩
  rw[zAE (yA3 ec e (λz=>nomatch z))]
  exact ec
end
section
variable{X:Cx}{pins:List (Addr×Obj)}{σ:St}{H:Hp}{s:Shared}{a:Addr}{kvs:List (Key×V)}{k:Key}{u:Value}{A:Around}{E:Value->Shared->Prop}
theorem yBK{Q:Value->Shared->Prop}(I:Inv X pins σ H s)(e:Rd H a (.dK kvs))(h:∀t s',Inv X pins σ H s'->Q (.int kvs.length t) s'):wpAny (model X.prog X.w) A (call (.builtin "len") [.ref a]) Q E s:=by
 obtain⟨z,hd,vs,rel,dd⟩:=zHJ I.hok e
 refine call_len_dict hd dd (by rw[<-rel.length];rw[sizeLine_eq] at z;lia) ?_
 rw[<-rel.length]
 exact h _ _ (I.tok _)
end
theorem zKW{X:Cx}{pins:List (Addr×Obj)}{σ:St}{H:Hp}{s:Shared}{a:Addr}{y:V}{o:Option V}(I:Inv X pins σ H s)(g:zRR H a y o):s.TypeIs (.ref a) "dict":=by
 rcases g with⟨kvs,k,e,_,_⟩|⟨kvs,k,b,e,_,_,_⟩
 ·obtain⟨_,_,vs,_,dd⟩:=zHJ I.hok e
  exact dd.typeIs
 ·obtain⟨_,_,xs,_,dd⟩:=zKV I.hok e
  exact dd.typeIs
def zYT(td ty tv:TE):TS:=λD σ H=>tv σ H λv H1=>td σ H1 λx H2=>ty σ H2 λy H3=>∃a H4,x=.ref a/\DPut H3 a y v H4/\D.nx σ H4
section
variable{X:Cx}{o i e value:Expr}{pos pos' tpos:Pos}{td ty tv:TE}
theorem zKX(hu:X.A.units+1<cLine)(ho:PE X o td)(hi:PE X i ty)(hv:PE X value tv)(hs:swapsWith value (some (.Subscript o i pos')) pos.line X.env=pure false) :
  PS X (.Assign [.Subscript o i pos'] value pos) (zYT td ty tv):=by
 intro pins s σ H D I h
 refine wpAny_Assign_Subscript (thn (hv pins s σ H _ I h) λr s1 ⟨v,H1,I1,rv,q1⟩=>thn (ho pins s1 σ H1 _ I1 q1) λu s2 ⟨x,H2,I2,rx,q2⟩=>thn (hi pins s2 σ H2 _ I2 q2) λiv s3 ⟨y,H3,I3,ry,a,H4,ex,g,q3⟩=>?_) hs
 subst ex
 obtain rfl:u=Value.ref a:=rx
 exact zOS hu I3 g ry rv λs4 I4=>⟨σ,H4,I4,q3⟩
end
theorem zHL{P:Program}{w:World}{H:Hp}(h:Heap)(hb:sysModules<h.objs.size):ObjOk P w H (h.push { cls:=.type "dict",data:=.dict #[] }) h.objs.size (.dK []) :=
 ⟨Nat.zero_le _,beq_eq_false_iff_ne.mpr (Ne.symm (Nat.ne_of_lt hb)),[],.nil,Heap.DictOf.new h⟩
theorem zRS{P:Program}{w:World}{H:Hp}(h:Heap)(hb:sysModules<h.objs.size):ObjOk P w H (h.push { cls:=.type "dict",data:=.dict #[] }) h.objs.size (.dT []) :=
 ⟨Nat.zero_le _,beq_eq_false_iff_ne.mpr (Ne.symm (Nat.ne_of_lt hb)),[],.nil,_,#[],0,Heap.get?_push_size _ rfl,⟨rfl,rfl,rfl⟩,rfl,rfl,List.nodup_nil⟩
def zYU:TE:=λ_ H Q=>∀p,H p=none->Q (.ref p) (upd H p (.dK []))
def zYV:TE:=λ_ H Q=>∀p,H p=none->Q (.ref p) (upd H p (.dT []))
section
variable{X:Cx}{pos:Pos}
theorem pe_dnewK:PE X (.Dict [] [] pos) zYU:=λpins s σ H Q I h =>
 wpAny_Dict_empty ⟨.ref s.heap.objs.size,_,I.laid (a:=s.heap.objs.size) (o:=.dK []) (t':=s.toks) (λ_ _ q=>Heap.get?_push_of_some _ q) (Nat.le_refl _) (zHL s.heap I.big),rfl,h _ (I.hok.fresh (Nat.le_refl _))⟩
theorem pe_dnewT:PE X (.Dict [] [] pos) zYV:=λpins s σ H Q I h =>
 wpAny_Dict_empty ⟨.ref s.heap.objs.size,_,I.laid (a:=s.heap.objs.size) (o:=.dT []) (t':=s.toks) (λ_ _ q=>Heap.get?_push_of_some _ q) (Nat.le_refl _) (zRS s.heap I.big),rfl,h _ (I.hok.fresh (Nat.le_refl _))⟩
end
def zOT:List (TE×TE)->St->Hp->(List (V×V)->Hp->Prop)->Prop
 |[],_,H,Q=>Q [] H
 |(tk,tv)::r,σ,H,Q=>tk σ H λx H1=>tv σ H1 λy H2=>zOT r σ H2 λps H3=>Q ((x,y)::ps) H3
abbrev VV:List (V×V)->List (Value×Value)->Prop:=Paired λp q=>RelV p.1 q.1/\RelV p.2 q.2
def PPs(X:Cx)(pos:Pos)(keys:List (Option Expr))(values:List Expr)(trs:List (TE×TE)):Prop :=
 ∀(pins:List (Addr×Obj)) (s:Shared) (σ:St) (H:Hp) (Q:List (V×V)->Hp->Prop),Inv X pins σ H s->zOT trs σ H Q ->
  wpAny (model X.prog X.w) X.A (evalPairs (pairTrees keys values X.env pos)) (λvs s'=>∃ps H',Inv X pins σ H' s'/\VV ps vs/\Q ps H') X.xe s
theorem zVA{X:Cx}{pos:Pos}:PPs X pos [] [] []:=λpins s σ H Q I h=>pairTrees_nil_walk ⟨[],H,I,.nil,h⟩
theorem zRT{X:Cx}{pos:Pos}{k v:Expr}{ks:List (Option Expr)}{vs:List Expr}{tk tv:TE}{trs:List (TE×TE)}(hk:PE X k tk)(hv:PE X v tv)(hr:PPs X pos ks vs trs) :
  PPs X pos (some k::ks) (v::vs) ((tk,tv)::trs):=λpins s σ H Q I h =>
 pairTrees_cons_walk (thn (hk pins s σ H _ I h) λu s1 ⟨x,H1,I1,rx,q1⟩=>thn (hv pins s1 σ H1 _ I1 q1) λw2 s2 ⟨y,H2,I2,ry,q2⟩ =>
  thn (hr pins s2 σ H2 _ I2 q2) λws s3 ⟨ps,H3,I3,rel,q3⟩=>⟨(x,y)::ps,H3,I3,.cons ⟨rx,ry⟩ rel,q3⟩)
noncomputable def zI4(kvs more:List (Key×V)):List (Key×V):=more.foldl (λacc kv=>zEX acc kv.1 kv.2) kvs
theorem KV.merge:∀{more:List (Key×V)} {rs:List (Key×Value)} {kvs:List (Key×V)} {vs:List (Key×Value)},KV more rs->KV kvs vs->KV (zI4 kvs more) (merged vs rs):=by
 intro more rs kvs vs r
 unfold KV at r
 induction r generalizing kvs vs with
 |nil=>intro q;exact q
 |@cons p q ps qs h t ih =>
  intro r0
  have e:KV (zEX kvs p.1 p.2) (stored vs q.1 q.2):=by
   have:=r0.put p.1 h.2
   rw[<-h.1];exact this
  exact ih e
theorem zD5:∀(more kvs:List (Key×V)),(zI4 kvs more).length<=kvs.length+more.length
 |[],kvs=>by show kvs.length<=kvs.length+0;lia
 |p::r,kvs=>by
  have h1:=zD5 r (zEX kvs p.1 p.2)
  have h2:=zCY kvs p.1 p.2
  show(zI4 (zEX kvs p.1 p.2) r).length<=_
  rw[List.length_cons];lia
theorem zGM{P:Program}{w:World}:∀{kvs:List (Key×V)} {ws:List (Value×Value)},VV (kvs.map λkv=>(kV kv.1,kv.2)) ws->∃rs,Carries (zA1 P w) ws rs/\KV kvs rs
 |[],_,r=>by rw[List.map_nil] at r;cases r;exact⟨[],True.intro,.nil⟩
 |p::kvs,_,r=>by
  rw[List.map_cons] at r
  cases r with
  |@cons a b as bs h t =>
   obtain⟨rs,c,q⟩:=zGM (P:=P) (w:=w) t
   obtain⟨b1,b2⟩:=b
   exact⟨(p.1,b2)::rs,⟨zI2 h.1,rfl,c⟩,.cons ⟨rfl,h.2⟩ q⟩
def yBL(trs:List (TE×TE)):TE:=λσ H Q=>∀p,H p=none->zOT trs σ (upd H p (.dK [])) λps H2=>H2 p=some (.dK [])/\∃kvs:List (Key×V),ps=kvs.map (λkv=>(kV kv.1,kv.2))/\kvs.length<=15/\Q (.ref p) (upd H2 p (.dK (zI4 [] kvs)))
theorem zVB{X:Cx}{pos:Pos}{keys:List (Option Expr)}{values:List Expr}{trs:List (TE×TE)}(h:PPs X pos keys values trs)(hall:keys.all (·.isSome)=true)(hl:keys.length=values.length)(h0:keys≠[])
  (h15:keys.length<=15):PE X (.Dict keys values pos) (yBL trs):=by
 intro pins s σ H Q I q
 have hn:=I.hok.fresh (Nat.le_refl s.heap.objs.size)
 have I1:=I.laid (a:=s.heap.objs.size) (o:=.dK []) (h':=s.heap.push { cls:=.type "dict",data:=.dict #[] }) (t':=s.toks) (λ_ _ q=>Heap.get?_push_of_some _ q) (Nat.le_refl _) (zHL s.heap I.big)
 refine wpAny_Dict_walk (knd:=zA1 X.prog X.w) hall hl h0 h15 (thn (h pins _ σ _ _ I1 (q _ hn)) λws s2 ⟨ps,H2,I2,rel,e,kvs,ep,lk,q2⟩=>?_)
 subst ep
 obtain⟨rs,c,rk⟩:=zGM (P:=X.prog) (w:=X.w) rel
 obtain⟨z,hd,vs0,r0,dd⟩:=zU8 I2.hok e
 cases r0
 refine⟨rs,c,dd,λh' dd' hs=>⟨.ref s.heap.objs.size,_,?_,rfl,q2⟩⟩
 have hz:(zI4 [] kvs).length<=sizeLine:=by
  have h1:=zD5 kvs []
  rw[List.length_nil] at h1
  rw[sizeLine_eq];lia
 have he:∃q,h'.get? s.heap.objs.size=some q:=let ⟨q,_,_,hq,_⟩:=dd';⟨q,hq⟩
 exact zHK I2 (by rw[e];exact True.intro) hs he (zOR hz hd (rk.merge .nil) dd')
structure M2(X:Cx)(o:Expr)(m:Str)(apos:Pos)(e f:Expr)(cpos:Pos):Prop where
 base:attributeBase o m X.env (eval o X.env)=eval o X.env
 few:((backTo cpos (starEach [e,f] X.env)).all (λx=>!x.1)&&(backToKw cpos (keywordEach [] X.env)).all (λx=>x.1.isSome)
  && decide (([e,f]:List Expr).length+([]:List Keyword).length+(if([]:List Keyword).isEmpty then 0 else 1)<30))=true
 line:(apos.endLine==cpos.line)=true
 trees:backTo cpos (starEach [e,f] X.env)=[(false,eval e X.env),(false,eval f X.env)]
def IsD(H:Hp)(a:Addr):Prop:=(∃kvs,Rd H a (.dK kvs))\/∃kvs,Rd H a (.dT kvs)
theorem zYW{X:Cx}{pins:List (Addr×Obj)}{σ:St}{H:Hp}{s:Shared}{a:Addr}(I:Inv X pins σ H s)(d:IsD H a) :
  s.TypeIs (.ref a) "dict"/\(∀b,Value.ref a=.ref b->∃ob,s.heap.get? b=some ob/\ob.dict=none)/\(a==sysModules)=false:=by
 rcases d with⟨kvs,e⟩|⟨kvs,e⟩
 ·obtain⟨_,hd,vs,_,dd⟩:=zHJ I.hok e
  refine⟨dd.typeIs,λb q=>?_,hd⟩
  cases q
  obtain⟨ob,_,_,h1,h2,_⟩:=dd
  exact⟨ob,h1,h2.2.1⟩
 ·obtain⟨_,hd,xs,_,dd⟩:=zKV I.hok e
  refine⟨dd.typeIs,λb q=>?_,hd⟩
  cases q
  obtain⟨ob,_,_,h1,h2,_⟩:=dd
  exact⟨ob,h1,h2.2.1⟩
section
variable{X:Cx}{pins:List (Addr×Obj)}{σ:St}{H:Hp}{s:Shared}{a:Addr}{y d:V}{u r:Value}{o:Option V}{A:Around}{E:Value->Shared->Prop}
theorem zYX{Q:Value->Shared->Prop}(hu:A.units+1<cLine)(I:Inv X pins σ H s)(g:zRR H a y o)(ry:RelV y u)(rd:RelV d r)(h:∀w' s',Inv X pins σ H s'->RelV (o.getD d) w'->Q w' s') :
  wpAny (model X.prog X.w) A (call (.builtin "dict.get") [.ref a,u,r]) Q E s:=by
 rcases g with⟨kvs,k,e,ey,l⟩|⟨kvs,k,b,e,ey,eb,l⟩
 ·subst ey
  obtain⟨z,hd,vs,rel,dd⟩:=zHJ I.hok e
  refine call_meetsIn PySem.F.slot_dict_get dd.typeIs PySem.F.entry_dict_get (PySem.F.args_dict_get_3 _ _ _) (meets_dict_get_default (zA1 X.prog X.w) a (zI2 ry) hd r) ⟨_,dd.mapOf,h _ _ (I.tok _) ?_⟩
  rw[l]
  exact(rel.val k).getD rd
 ·subst ey
  cases(show u=Value.ref b from ry)
  obtain⟨z,hd,xs,rel,dd⟩:=zKV I.hok e
  refine call_meetsIn PySem.F.slot_dict_get dd.typeIs PySem.F.entry_dict_get (PySem.F.args_dict_get_3 _ _ _) (meetsH_dict_get_default (tupleKind (zA1 X.prog X.w)) a b hd r) ⟨tupleKind_room_in1 hu,k,xs,zGL I.hok eb,dd,h _ _ (I.tok _) ?_⟩
  rw[l]
  exact(rel.val k).getD rd
end
def zYY(td ty tx:TE):TE:=λσ H Q=>td σ H λx H1=>∃a,x=.ref a/\IsD H1 a/\ty σ H1 λy H2=>tx σ H2 λz H3=>∃o,zRR H3 a y o/\Q (o.getD z) H3
section
variable{X:Cx}{o e f:Expr}{apos cpos:Pos}{td ty tx:TE}
theorem zRU(hu:X.A.units+1<cLine)(ho:PE X o td)(he:PE X e ty)(hf:PE X f tx)(m:M2 X o "get" apos e f cpos):PE X (.Call (.Attribute o "get" apos) [e,f] [] cpos) (zYY td ty tx):=by
 intro pins s σ H Q I h
 refine wpAny_Call_method m.base m.few m.line PySem.F.plainAttrs_dict PySem.F.slot_dict_get PySem.F.type_dict_get (thn (ho pins s σ H _ I h) λu s1 ⟨x,H1,I1,rx,a,ex,d,q1⟩=>?_)
 subst ex
 obtain rfl:u=Value.ref a:=rx
 obtain⟨t1,t2,_⟩:=zYW I1 d
 refine⟨t1,t2,?_⟩
 rw[m.trees]
 refine Calls.callWith_builtin rfl (Calls.evalArgs_plain (Calls.spliced_cons (thn (he pins s1 σ H1 _ I1 q1) λiv s2 ⟨y,H2,I2,ry,q2⟩ =>
  Calls.spliced_cons (thn (hf pins s2 σ H2 _ I2 q2) λfv s3 ⟨z,H3,I3,rz,ov,g,q3⟩=>Calls.spliced_nil ?_))))
 exact zYX hu I3 g ry rz λw' s4 I4 rw'=>⟨_,H3,I4,rw',q3⟩
end
section
variable{X:Cx}{pins:List (Addr×Obj)}{σ:St}{H:Hp}{s:Shared}{a:Addr}{kvs:List (Key×V)}{A:Around}{E:Value->Shared->Prop}
end
section
variable{X:Cx}{pins:List (Addr×Obj)}{σ:St}{H:Hp}{s:Shared}{a:Addr}{y:V}{u:Value}{A:Around}{E:Value->Shared->Prop}
end
end L2
namespace Att
open PySem PySem.W PySem.Calls PyProof.Rows
theorem zFI{P:Params}{h:Heap}:∀(ns:List Int) (vs:List Value),WellAll P h vs (ns.map WData.int)->IntsAre vs ns:=by
 intro ns
 induction ns with
 |nil =>
  intro vs w
  rw[List.map_nil] at w
  cases w
  exact .nil
 |cons n ns ih =>
  intro vs w
  rw[List.map_cons] at w
  cases w with
  |cons a b =>
   cases a
   exact .cons _ _ (ih _ b)
theorem zOU{l:OpenLaw}{n:Nat}(hn:l.most=some n){P:Params}{h:Heap}{args:List WData}{vals:List Value}
  (hpre:l.row.toRowW.claim.pre args=true) (hwl:WellAll P h vals args) :
  ∃a vs ns,vals=[Value.ref a]/\args=[WData.list (ns.map WData.int)]/\h.get? a=some { cls:=.type "list",data:=.seq vs.toArray }/\IntsAre vs ns/\ns.length<=n:=by
 have hsh:WShape.hasAll [] args [.list .int]=true:=(pre_splitW hpre).1
 have hc:l.pre.holds [] { args:=args }=true:=(pre_splitW hpre).2
 obtain⟨d,r,rfl,h1,h2⟩:=hasAllW_cons hsh
 obtain rfl:=hasAllW_nil h2
 obtain⟨xs,rfl,h3⟩:=hasW_list h1
 obtain⟨ns,rfl⟩:=items_int h3
 have hlen:ns.length<=n:=by
  unfold OpenLaw.pre at hc
  have h4:(WTm.not (.lt (.lit (.int (n:Int))) (.len (.arg 0)))).holds [] { args:=[.list (ns.map .int)] }=true:=by
   have h4:=(holds_andW hc).1
   rw[hn] at h4
   exact h4
  have h5:=condW_of h4 (w_not (w_lt w_lit (w_len_list (w_arg rfl))))
  rw[List.length_map] at h5
  refine Nat.le_of_not_lt λq=>?_
  have q':(n:Int)<((ns.length:Nat):Int):=by lia
  first
   |(rw[decide_eq_true q'] at h5;exact absurd h5 (by decide))
   |(simp at h5;lia)
 cases hwl with
 |cons w1 w2 =>
  cases w2
  cases w1 with
  |list ho hall=>exact⟨_,_,ns,rfl,rfl,ho,zFI ns _ hall,hlen⟩
theorem zOV(l:OpenLaw)(args:List WData):l.row.toRowW.claim.post args (.bool true) args=true :=
 postW_of (r:=l.row.toRowW) (X:=(true==true))
  (show WShape.has [] (.bool true) .bool=true by first|rfl|decide|simp[WShape.has,WShape.arms,WShape.armsAll])
  (show(WTm.eq .res (.lit (.bool true))).value [] { args:=args,res:=some (.bool true),after:=args }=some (.bool (true==true)) from w_eq_bool (w_res rfl) w_lit) rfl
theorem attach_call{l:OpenLaw}{n:Nat}{q:Program}{loose:List Str}{XP:(Str->Option Value)->Heap->Prop}{YP:World->Heap->Prop}{d:DefRec}
  (hn:l.most=some n) (hdf:d.params.defaults=[])
  (call:∀(w:World) (s₀ s₁:Shared) (mg mb:Str->Option Value) (fa:Addr) (o:Obj) (pm cd doc:Value) (a:Addr) (vs:List Value) (ns:List Int),
   Ground q loose [] XP w s₀ mg mb s₁.heap->YP w s₁.heap ->
   s₁.heap.get? fa=some o->o.data=.func (docDef d.name d.params d.body d.scope pm cd doc)->s₁.heap.CodeRec cd d.name->mg d.name=some (.ref fa) ->
   s₁.heap.get? a=some { cls:=.type "list",data:=.seq vs.toArray }->IntsAre vs ns->ns.length<=n->s₁.gens=#[] ->
   codeAny (model l.prog w) callerA (.call (.ref fa) ⟨[.ref a],[]⟩) (λr s'=>r=.ok (.ret (.bool true))/\OldK s₁.heap s'.heap/\s'.os=s₁.os/\AllBare s'.gens) s₁) :
  WalkO q loose XP YP l.row.toRowW d [] (λf vs=>PySem.call f vs):=by
 intro w s₀ s₁ mg mb G Y fa o pm cd doc dV kV ho hd hcd hD hmg hg args vals as hpre hlay hrd hwl hlo
 obtain rfl:dV=.none:=Dflts.none hD hdf
 obtain rfl:kV=.none:=Dflts.noKw hD
 obtain⟨a,vs,ns,rfl,rfl,hobj,hints,hlen⟩:=zOU hn hpre hwl
 refine enter_call (codeAny_mono (call w s₀ s₁ mg mb fa o pm cd doc a vs ns G Y ho (fd_plain hd) hcd hmg hobj hints hlen hg) λr s' hq=>?_)
 obtain⟨rfl,h2,h3,h4⟩:=hq
 exact⟨.inl ⟨.bool true,.bool true,[],rfl,λ_=>rfl,.bool true,zOV l _,λ_=>⟨List.Pairwise.nil,λ_ hm=>(nomatch hm)⟩⟩,h2,h3,h4⟩
section
variable{prog:Program}{w:World}{A:Around}{E:Value->Shared->Prop}{s:Shared}{K:Frag}
noncomputable def yCT(h:Heap)(L d:Addr):List (Addr×Obj):=(List.range h.objs.size).filterMap λa=>if a=L\/a=d then none else(h.get? a).map λo=>(a,o)
end
end Att
namespace L2
open PySem PySem.Spec PyProof.Rows
theorem zI5:∀{vs:List Value} {ns:List Int},IntsAre vs ns->Vals (ns.map V.int) vs
 |_,_,.nil=>.nil
 |_,_,.cons n t h=>.cons ⟨t,rfl⟩ (zI5 h)
def yBM(H:Hp):Prop:=∀b,H b=none\/(∃o xs,H b=some (.frz o (.lst xs)))\/∃q,H b=some (.tbl q #[])
structure Tabs(K:PySem.W.Frag)(q:Program):Prop where
 rcs:∀x∈zBT,∀c T,PySem.W.tabIn K x=some (c,T)->∃d,(PyProof.Rows.recsOf q).find? (λe=>e.name==x)=some d
 out:∀x∈zBT,∀c T,PySem.W.tabIn K x=some (c,T)->K.lookup T=none
 uni:∀x∈zBT,∀y∈zBT,∀c c' T,PySem.W.tabIn K x=some (c,T)->PySem.W.tabIn K y=some (c',T)->x=y
def CB(K:PySem.W.Frag)(base:Heap):Prop:=∀x∈zBT,∀c T,PySem.W.tabIn K x=some (c,T)->PySem.W.CodeHd base c T
theorem Tabs.uq{K:PySem.W.Frag}{q:Program}(t:Tabs K q){T:Addr}{u v:Str}(a:TB K T u)(b:TB K T v):u=v:=by
 obtain⟨x,c,h1,h2,rfl⟩:=a
 obtain⟨y,c',g1,g2,rfl⟩:=b
 rw[t.uni x h1 y g1 c c' T h2 g2]
open Classical in
noncomputable def zI6(K:PySem.W.Frag)(H:Hp):Hp:=λb=>if h:∃q,TB K b q then some (.tbl h.choose #[]) else H b
theorem zVC{K:PySem.W.Frag}{H:Hp}{q:Program}(t:Tabs K q){T:Addr}{u:Str}(a:TB K T u):zI6 K H T=some (.tbl u #[]):=by
 have h:∃q,TB K T q:=⟨u,a⟩
 unfold zI6
 rw[dif_pos h,t.uq h.choose_spec a]
theorem zVD{K:PySem.W.Frag}{H:Hp}{b:Addr}(a:∀q,¬TB K b q):zI6 K H b=H b:=by
 unfold zI6
 rw[dif_neg λ⟨q,z⟩=>a q z]
theorem zRV{P q:Program}{w:World}{K:PySem.W.Frag}{mg mb:Str->Option Value}{CX:CXT}{k:Nat}{fa a:Addr}{fd:FuncData}{x:Str}{sp:Sp}{s₁:Shared}{vs:List Value}{ns:List Int}
  (KX:K.In s₁.heap) (hns:s₁.heap.Ns mainGlobals mg) (hb:s₁.heap.Ns builtinsNs mb) (hbb:∀x:Str,x≠"__name__"->mb x=bootBuiltins x) (hlim:s₁.heap.NoLimit) (hbm:∃bm ob,mg "__builtins__"=some (.ref bm)/\bm≠builtinsNs/\s₁.heap.get? bm=some ob/\ob.cls=.type "module"/\ob.dict=some builtinsNs/\ob.data=.plain) (hg:s₁.gens=#[])
  (tK:Tabs K q) (tT:∀x∈zBT,∀c T,PySem.W.tabIn K x=some (c,T)->PySem.W.CodeHd s₁.heap c T/\s₁.heap.get? T=some (PySem.W.tabObj #[]))
  (ha:s₁.heap.get? a=some { cls:=.type "list",data:=.seq vs.toArray }) (hi:IntsAre vs ns) (hl:ns.length<=sizeLine) (hr:Room k callerA)
  (F:∀base:Heap,K.In base->base.Ns mainGlobals mg->CB K base->FnOk P w K mg base CX k fa fd [x] sp) (hbind:∀(s:Shared) (u:Value),BindsTo s fd ⟨[u],[]⟩ [(x,u)])
  (hsp:∀H:Hp,yBM H->SqL K H a (ns.map V.int)->sp [.ref a] H (λv _=>v=.bl true) λ_ _ _=>False)
  (hCX:∀H e s',CX [] H s₁ (λ_ _ _=>False) e s'->False) :
  codeAny (model P w) callerA (.call (.ref fa) ⟨[.ref a],[]⟩) (λr s'=>r=.ok (.ret (.bool true))/\OldK s₁.heap s'.heap/\s'.os=s₁.os/\AllBare s'.gens) s₁:=by
 have rv:=zI5 hi
 have lenV:=hi.length
 have tabO:∀{T u},TB K T u->s₁.heap.get? T=some (PySem.W.tabObj #[])/\PySem.isCodeTable s₁.heap T/\K.lookup T=none:=λ{T u} h=>by
  obtain⟨x,c,h1,h2,_⟩:=h
  obtain⟨z1,z2⟩:=tT x h1 c T h2
  exact⟨z2,(z1.tab z2).isCodeTable,tK.out x h1 c T h2⟩
 have tne:∀{u},¬TB K a u:=λ{u} h=>by
  have e:=(tabO h).1
  rw[ha] at e
  cases e
 -- from an abstract heap in which nothing but the script and the tables is tracked
 have core:∀H0:Hp,(∀b,H0 b=none\/∃o xs,H0 b=some (.frz o (.lst xs)))->SqL K H0 a (ns.map V.int)->HOk P w H0 s₁.heap->(∀b,H0 b≠none->b=a)->(H0 a≠none->K.lookup a=none) ->
   codeAny (model P w) callerA (.call (.ref fa) ⟨[.ref a],[]⟩) (λr s'=>r=.ok (.ret (.bool true))/\OldK s₁.heap s'.heap/\s'.os=s₁.os/\AllBare s'.gens) s₁:=by
  intro H0 hO0 hS0 hok0 hA0 hK0
  have hT:∀{T u},TB K T u->zI6 K H0 T=some (.tbl u #[]):=λh=>zVC tK h
  have hN:∀b,(∀u,¬TB K b u)->zI6 K H0 b=H0 b:=λb h=>zVD h
  have gr:∀b u,H0 b=some u->zI6 K H0 b=some u:=λb u e=>by
   have:b=a:=hA0 b (by rw[e];simp)
   rw[hN b λu=>by rw[this];exact tne,e]
  generalize hH:zI6 K H0=H at hT hN gr
  have hO:yBM H:=λb=>by
   by_cases h:∃u,TB K b u
   ·obtain⟨u,h⟩:=h;exact .inr (.inr ⟨u,hT h⟩)
   ·rw[hN b λu z=>h ⟨u,z⟩]
    exact(hO0 b).imp_right .inl
  have hS:SqL K H a (ns.map V.int):=hS0.imp (λz=>z.imp (gr _ _) λ⟨o,z⟩=>⟨o,gr _ _ z⟩) id
  have hok:HOk P w H s₁.heap:=λb u e=>by
   by_cases h:∃u,TB K b u
   ·obtain⟨v,h⟩:=h
    rw[hT h] at e
    cases e
    exact⟨(tabO h).1,trivial,λpos cv z=>by cases z⟩
   ·rw[hN b λu z=>h ⟨u,z⟩] at e
    refine(hok0 b u e).stay (λc v _ q=>q) (λc q=>gr _ _ q) (λc xs q=>gr _ _ q) λc o x q=>gr _ _ q
  have hA:∀b,H b≠none->b=a\/∃u,TB K b u:=λb z=>by
   by_cases h:∃u,TB K b u
   ·exact .inr h
   ·rw[hN b λu z=>h ⟨u,z⟩] at z
    exact .inl (hA0 b z)
  have hK:H a≠none->K.lookup a=none:=λz=>hK0 (by rw[<-hN a λu=>tne];exact z)
  have base_of:∀{b:Addr} {o:Obj},s₁.heap.get? b=some o->H b=none->(zQ1 s₁.heap H).get? b=some o:=λe n=>zRC e n
  have noA:∀{b:Addr} {o:Obj} {es:Array DictEntry} {ep:Nat},s₁.heap.get? b=some o->o.data=.dict es ep->H b=none:=λ{b o es ep} e d=>by
   cases q:H b with
   |none=>rfl
   |some u =>
    rcases hA b (by rw[q];simp) with e'|⟨v,h⟩
    ·subst e'
     rw[ha] at e;cases e
     have d':Data.seq vs.toArray _=Data.dict es ep:=d
     cases d'
    ·rw[(tabO h).1] at e;cases e
     have d':Data.fields #[]=Data.dict es ep:=d
     cases d'
  have nsK:∀{b:Addr} {m:Str->Option Value},s₁.heap.Ns b m->(zQ1 s₁.heap H).Ns b m:=λ{b m} ⟨o,es,ep,e,d,r⟩=>⟨o,es,ep,base_of e (noA e d),d,r⟩
  have hKb:K.In (zQ1 s₁.heap H):=λb o e=>base_of (KX b o e) (by
   cases q:H b with
   |none=>rfl
   |some u =>
    rcases hA b (by rw[q];simp) with e'|⟨v,h⟩
    ·subst e'
     rw[hK (by rw[q];simp)] at e;cases e
    ·rw[(tabO h).2.2] at e;cases e)
  have hM:Mod K mg (zQ1 s₁.heap H):=⟨hKb,nsK hns,⟨mb,nsK hb,hbb⟩,let ⟨mc,h1,h2⟩:=hlim;⟨mc,nsK h1,h2⟩,by
   obtain⟨bm,ob,b1,b2,b3,b4,b5,b6⟩:=hbm
   refine⟨bm,ob,b1,b2,base_of b3 ?_,b4,b5,b6⟩
   cases q:H bm with
   |none=>rfl
   |some u =>
    rcases hA bm (by rw[q];simp) with e'|⟨v,h⟩
    ·subst e';rw[ha] at b3;cases b3;injection b4 with z;exact absurd z (by decide)
    ·rw[(tabO h).1] at b3;cases b3;cases b4⟩
  have e0:Env0 P w K mg (zQ1 s₁.heap H) callerA [] s₁ H:=⟨λT u h=>⟨_,hT h⟩,rfl,hM,λb o e=>zUT e,Nat.le_of_eq (zN6 _ _),trivial,λb hb=>absurd (show b∈([]:List Addr) from hb) (by simp),hok,.of_eq hg⟩
  have hCB:CB K (zQ1 s₁.heap H):=λx hx c T e=>by
   obtain⟨⟨o,vs',file,tf,flags,tg,inF,text,tt,e1,e2,r⟩,_⟩:=tT x hx c T e
   refine⟨o,vs',file,tf,flags,tg,inF,text,tt,base_of e1 ?_,e2,r⟩
   cases q:H c with
   |none=>rfl
   |some u =>
    rcases hA c (by rw[q];simp) with e'|⟨v,h⟩
    ·subst e';rw[ha] at e1;cases e1;injection e2 with z;exact absurd z (by decide)
    ·rw[(tabO h).1] at e1;cases e1;cases e2
  refine codeAny_mono ((F _ hKb (nsK hns) hCB).run callerA [] s₁ H ⟨[.ref a],[]⟩ [.ref a] [.ref a] _ _ hr e0 (hbind s₁ (.ref a)) (.cons rfl .nil) (hsp H hO hS)) λr s' h=>?_
  cases r with
  |error e=>exact(hCX H e s' h).elim
  |ok fl =>
   cases fl with
   |next=>exact False.elim h
   |brk=>exact False.elim h
   |cont=>exact False.elim h
   |ret u =>
    obtain⟨v,H',os,bare,un,hok',r',q⟩:=h
    have q':v=.bl true:=q
    subst q'
    obtain rfl:u=Value.bool true:=r'
    have old:∀b o,s₁.heap.get? b=some o->s'.heap.get? b=some o\/(PySem.isCodeTable s₁.heap b/\o=PySem.W.tabObj #[]/\∃ps,s'.heap.get? b=some (PySem.W.tabObj ps)):=λb o e=>by
     cases q:H b with
     |none=>exact .inl (un.keep b o e q (by intro z;exact absurd (show b∈([]:List Addr) from z) (by simp)) (by simp))
     |some u =>
      rcases hO b with z|⟨ob,xs,z⟩|⟨v,z⟩
      ·rw[q] at z;cases z
      ·have z2:=un.frzs b ob _ z
       obtain⟨e1,_⟩:=hok b _ z
       obtain⟨e2,_⟩:=hok' b _ z2
       rw[e] at e1;cases e1
       exact .inl e2
      ·obtain⟨m,z2⟩:=un.tbls b v _ z
       obtain⟨e2,_⟩:=hok' b _ z2
       by_cases h:∃u,TB K b u
       ·obtain⟨w',h⟩:=h
        rw[(tabO h).1] at e;cases e
        exact .inr ⟨(tabO h).2.1,rfl,_,e2⟩
       ·rw[hN b λu z=>h ⟨u,z⟩] at z
        rcases hO0 b with y|⟨ob,xs,y⟩
        ·rw[z] at y;cases y
        ·rw[z] at y;cases y
    refine⟨rfl,⟨λb o e=>?_,λb o e=>?_⟩,os,bare⟩
    ·rcases old b o e with z|⟨ht,rfl,ps,hP⟩
     ·exact .inl z
     ·exact .inr (.inl ⟨ht,rfl,#[],ps,rfl,by rw[Array.empty_append];exact hP⟩)
    ·rcases old b o e with z|⟨_,_,ps,hP⟩
     ·exact⟨o,z⟩
     ·exact⟨_,hP⟩
 cases hk:K.lookup a with
 |some o =>
  -- the script is one of the module's own objects
  have e:=KX a o hk
  rw[ha] at e
  cases e
  refine core (λ_=>none) (λ_=>.inl rfl) (.inr ⟨_,vs.toArray,_,hk,rfl,rfl,rfl,by rw[List.size_toArray,lenV];exact hl,by simpa using rv⟩) (λb u z=>by have z':(none:Option HO)=some u:=z;cases z') (λb z=>absurd rfl z) λz=>absurd rfl z
 |none =>
  refine core (λb=>if b=a then some (.frz { cls:=.type "list",data:=.seq vs.toArray } (.lst (ns.map V.int))) else none) (λb=>?_) (.inl (.inr ⟨{ cls:=.type "list",data:=.seq vs.toArray },if_pos rfl⟩)) (λb u z=>?_) (λb z=>?_) λ_=>hk
  ·by_cases hb:b=a
   ·exact .inr ⟨_,_,if_pos hb⟩
   ·exact .inl (if_neg hb)
  ·by_cases hb:b=a
   ·have z':=(if_pos hb).symm.trans z
    cases z'
    subst hb
    exact⟨ha,by rw[List.length_map];exact hl,vs,_,rv,ha⟩
   ·have z':=(if_neg hb).symm.trans z
    cases z'
  ·by_cases hb:b=a
   ·exact hb
   ·exact absurd (if_neg hb) z
theorem walk_of{l:PySem.W.OpenLaw}{n k:Nat}{q:Program}{loose:List Str}{XP:(Str->Option Value)->Heap->Prop}{YP:World->Heap->Prop}{d:DefRec}{K:Params->PySem.W.Frag}{CX:World->CXT}{sp:World->Sp}{x:Str}
  (hn:l.most=some n) (hn2:n<=sizeLine) (hdf:d.params.defaults=[]) (hr:Room k callerA)
  (hY:∀(w:World) (h:Heap),YP w h->(K w.params).In h) (tK:∀w:World,Tabs (K w.params) q)
  (F:∀(w:World) (mg:Str->Option Value) (fa:Addr) (h:Heap),(K w.params).In h->h.Ns mainGlobals mg->mg d.name=some (.ref fa) ->
   ∃fd:FuncData,(∀(s:Shared) (u:Value),BindsTo s fd ⟨[u],[]⟩ [(x,u)]) /\
    ∀base:Heap,(K w.params).In base->base.Ns mainGlobals mg->CB (K w.params) base->FnOk l.prog w (K w.params) mg base (CX w) k fa fd [x] (sp w))
  (hsp:∀(w:World) (H:Hp) (a:Addr) (ns:List Int),ns.length<=n->yBM H->SqL (K w.params) H a (ns.map V.int)->sp w [.ref a] H (λv _=>v=.bl true) λ_ _ _=>False)
  (hCX:∀(w:World) (H:Hp) (s:Shared) (e:Value) (s':Shared),CX w [] H s (λ_ _ _=>False) e s'->False) :
  PySem.W.WalkO q loose XP YP l.row.toRowW d [] (λf vs=>PySem.call f vs):=by
 refine Att.attach_call hn hdf λw s₀ s₁ mg mb fa o pm cd doc a vs ns G Y ho hd hcd hmg hobj hints hlen hg=>?_
 have KX:=hY w _ Y
 obtain⟨fd,hb,hF⟩:=F w mg fa _ KX G.T.g hmg
 exact zRV KX G.T.g G.T.b G.T.builtins G.T.nolimit G.T.bmain hg (tK w) (λx hx c T e=>let ⟨d,hd⟩:=(tK w).rcs x hx c T e;PySem.W.tab_of G.T KX hd e) hobj hints (Nat.le_trans hlen hn2) hr hF hb (λH hO hS=>hsp w H a ns hlen hO hS) λH e s'=>hCX w H s₁ e s'
noncomputable def zA4(s:Stmt):Arguments:=match s with
 |.FunctionDef _ a _ _ _ _ _ _ _ _=>a
 |_=>{ posonlyargs:=[],args:=[],vararg:=none,kwonlyargs:=[],kw_defaults:=[],kwarg:=none,defaults:=[] }
noncomputable def zAV(s:Stmt):List Stmt:=match s with
 |.FunctionDef _ _ b _ _ _ _ _ _ _=>b
 |_=>[]
noncomputable def zAJ(s:Stmt):Scope:=match s with
 |.FunctionDef _ _ _ _ _ _ sc _ _ _=>sc
 |_=>{ kind:=.function,names:=[],isGenerator:=false,isCoroutine:=false }
abbrev CX0:CXT:=λ_ _ _ _ _ _=>False
abbrev E0:XK:=λ_ _ _=>False
theorem zRW{X:Cx}:zOL CX0 X E0:=λ_ _ _ _ _ _ _ h=>h.elim
structure Fun(K:PySem.W.Frag)(x qual:Str)(st:Stmt)(f:Addr)(fd:FuncData):Prop where
 ex:∃(oc:Value) (od:Option Addr) (kV doc pm:Value) (an:Option Addr) (cdv ct:Value) (osl:Array (Option Value)),
  fd=PySem.W.fnOf x qual (zA4 st) (zAV st) (zAJ st) .none kV doc pm an cdv ct/\K.lookup f=some ⟨oc,od,.func fd,osl⟩/\PySem.W.codeIn K cdv qual=true
 kp:PySem.W.keepIn K (.ref f)=true
section
variable{P:Program}{w:World}{K:PySem.W.Frag}{mg:Str->Option Value}{base:Heap}
theorem Fun.ok{x qual:Str}{st:Stmt}{f:Addr}{fd:FuncData}{N ps:List Str}{k:Nat}{sp:Sp}(F:Fun K x qual st f fd)(S:FnScope N ps (zAJ st))(len:∀vs H Q E,sp vs H Q E->vs.length=ps.length)
  (hbody:∀(cdv:Value) (A:Around) (outer:List Env) (s:Shared) (H:Hp) (vs:List V) (Q:VK) (E:XK),Room k (A.deeper (envOfC qual (zAJ st) s.heap.objs.size f cdv))->sp vs H Q E ->
   ∃t,PSs (zRH CX0 P w K mg base N qual (zAJ st) f cdv A outer s H E).nox (zAV st) t/\t { nx:=λ_ H'=>Q .non H',rt:=Q } (start N vs) H):FnOk P w K mg base CX0 (k+1) f fd ps sp:=by
 obtain⟨oc,od,kV,doc,pm,an,cdv,ct,osl,rfl,lk,hcd⟩:=F.ex
 refine zYK lk hcd S len λA outer s H vs Q E hr hsp=>?_
 obtain⟨t,h,q⟩:=hbody cdv A outer s H vs Q E hr hsp
 exact⟨t,h.nox,q⟩
theorem Fun.binds{x qual:Str}{st:Stmt}{f:Addr}{fd:FuncData}{ps:List Str}(F:Fun K x qual st f fd)
  (h:∀(kV doc pm:Value) (an:Option Addr) (cdv ct:Value) (us:List Value),us.length=ps.length->bindArgs (PySem.W.fnOf x qual (zA4 st) (zAV st) (zAJ st) .none kV doc pm an cdv ct) ⟨us,[]⟩=pure (ps.zip us)):Binds K fd ps []:=by
 obtain⟨oc,od,kV,doc,pm,an,cdv,ct,osl,rfl,lk,hcd⟩:=F.ex
 exact .all (h kV doc pm an cdv ct)
theorem zCE{x qual:Str}{st:Stmt}{f:Addr}{oc:Value}{od an:Option Addr}{osl:Array (Option Value)}{kV doc pm cdv ct:Value}(l:K.lookup f=some ⟨oc,od,.func (PySem.W.fnOf x qual (zA4 st) (zAV st) (zAJ st) .none kV doc pm an cdv ct),osl⟩)
  (c:PySem.W.codeIn K cdv qual=true) (k:PySem.W.keepIn K (.ref f)=true):Fun K x qual st f (PySem.W.fnOf x qual (zA4 st) (zAV st) (zAJ st) .none kV doc pm an cdv ct):=⟨⟨oc,od,kV,doc,pm,an,cdv,ct,osl,rfl,l,c⟩,k⟩
end
theorem zFJ{n:Nat}(h:n<=1000):n<sizeLine:=Nat.lt_of_le_of_lt h (by decide)
section
variable{X:Cx}
theorem pv(i:Nat){x:Str}{pos:Pos}(hN:X.N[i]?=some x:=by rfl)(hv:Vis X.env.scope x:=by first|exact Or.inl rfl|exact Or.inr (Or.inl rfl)|exact Or.inr (Or.inr rfl))(hd:(x==("__debug__":Str))=false:=by decide)
  (hcd:(x==("__classdict__":Str))=false:=by decide):PE X (.Name x pos) (zQ2 i):=zFF hN hv hd hcd
end
end L2
namespace TS
open PySem PyProof.Rows
section
variable{prog:Program}{w:World}{A:Around}{E:Value->Shared->Prop}{s:Shared}{a₀:Array Keyed}{kd:SortKind}
structure SB(a₀:Array Keyed)(kd:SortKind)(st:SortSt):Prop where
 perm:(arrOf st).Perm a₀
 kind:kindOf st=kd
 failed:failedOf st=none
theorem SB.size{st:SortSt}(h:SB a₀ kd st):(arrOf st).size=a₀.size:=h.perm.size_eq
theorem SB.setArr{st:SortSt}(h:SB a₀ kd st){xs:Array Keyed}(hp:xs.Perm (arrOf st)):SB a₀ kd (setArr st xs):=⟨hp.trans h.perm,h.kind,h.failed⟩
theorem SB.mem{st:SortSt}(h:SB a₀ kd st){i:Nat}(hi:i<(arrOf st).size):(arrOf st)[i]∈a₀:=h.perm.mem_iff.mp (Array.getElem_mem hi)
theorem zDK{st:SortSt}{arr:Array Keyed}{i:Nat}{Q:Keyed->SortSt->Prop}(hi:i<arr.size)(h:Q arr[i] st):wpS (model prog w) A E s (elem' arr i) Q st:=by
 rw[elem'_eq,getElem?_pos arr i hi]
 exact wpS_pure h
theorem zAM{α:Type}{c:Prop}[Decidable c]{x y:StateT SortSt Sem α}{Q:α->SortSt->Prop}{st:SortSt}(h1:c->wpS (model prog w) A E s x Q st)(h2:¬c->wpS (model prog w) A E s y Q st) :
  wpS (model prog w) A E s (if c then x else y) Q st:=by
 by_cases h:c
 ·rw[if_pos h];exact h1 h
 ·rw[if_neg h];exact h2 h
end
section
variable{prog:Program}{w:World}{A:Around}{E:Value->Shared->Prop}{s:Shared}{a₀:Array Keyed}{kd:SortKind}
theorem zHM{st:SortSt}{i j:Nat}{Q:PUnit->SortSt->Prop}(h:Q ⟨⟩ (setArr st (mirror (arrOf st) i j ((j-i) / 2)))):wpS (model prog w) A E s (reverseSlice' i j) Q st:=by
 rw[reverseSlice'_eq]
 exact wpS_modify h
def Kp(a₀:Array Keyed)(kd:SortKind)(st st':SortSt):Prop:=SB a₀ kd st'/\pendingOf st'=pendingOf st
theorem Kp.rev{st st':SortSt}{i j d:Nat}(h:Kp a₀ kd st st'):Kp a₀ kd st (setArr st' (mirror (arrOf st') i j d)):=⟨h.1.setArr (mirror_perm _ _ _ _),h.2⟩
end
noncomputable def zFK:Bool->Keyed->Array Keyed->Nat->Nat->Nat->StateT SortSt Sem (Option Nat):=sortPriv% PySem.Builtin.gallop
section
variable{prog:Program}{w:World}{A:Around}{E:Value->Shared->Prop}{s:Shared}{a₀:Array Keyed}{kd:SortKind}
end
noncomputable def zCZ:Nat->StateT SortSt Sem Unit:=sortPriv% PySem.Builtin.setMinGallop
noncomputable abbrev zI7(st:SortSt)(g:Nat):SortSt:=SortSt.mk' (kindOf st) (arrOf st) (pendingOf st) g (failedOf st)
theorem zEY(g:Nat):zCZ g=modify λs=>zI7 s g:=rfl
noncomputable def zRX:Array Keyed->Array Keyed->StateT SortSt Sem (Array Keyed):=sortPriv% PySem.Builtin.mergeLo
noncomputable def zRY:Array Keyed->Array Keyed->StateT SortSt Sem (Array Keyed):=sortPriv% PySem.Builtin.mergeHi
structure Mid(a b out:Array Keyed)(ia ib:Nat):Prop where
 perm:(out.toList++a.toList.drop ia++b.toList.drop ib).Perm (a.toList++b.toList)
 la:ia<=a.size
 lb:ib<=b.size
 sz:out.size=ia+ib
theorem Mid.pushB{a b out:Array Keyed}{ia ib:Nat}(m:Mid a b out ia ib)(h:ib<b.size):Mid a b (out.push b[ib]) ia (ib+1):=by
 refine⟨?_,m.la,h,by rw[Array.size_push,m.sz];lia⟩
 have e:b.toList.drop ib=b[ib]::b.toList.drop (ib+1):=by
  rw[List.drop_eq_getElem_cons (by simpa using h)];simp
 have p:=m.perm
 rw[e] at p
 refine List.Perm.trans ?_ p
 rw[Array.toList_push]
 simp only[List.append_assoc,List.singleton_append]
 exact List.Perm.append_left _ (List.perm_middle.symm)
theorem Mid.pushA{a b out:Array Keyed}{ia ib:Nat}(m:Mid a b out ia ib)(h:ia<a.size):Mid a b (out.push a[ia]) (ia+1) ib:=by
 refine⟨?_,h,m.lb,by rw[Array.size_push,m.sz];lia⟩
 have e:a.toList.drop ia=a[ia]::a.toList.drop (ia+1):=by
  rw[List.drop_eq_getElem_cons (by simpa using h)];simp
 have p:=m.perm
 rw[e] at p
 refine List.Perm.trans ?_ p
 rw[Array.toList_push]
 simp only[List.append_assoc,List.singleton_append,List.cons_append]
 exact List.Perm.refl _
theorem zOW(a:Array Keyed)(i:Nat):(a.extract i a.size).toList=a.toList.drop i:=by
 rw[Array.toList_extract]
 exact List.take_of_length_le (by simp)
theorem Mid.done{a b out:Array Keyed}{ia ib:Nat}(m:Mid a b out ia ib):(out++a.extract ia a.size++b.extract ib b.size).Perm (a++b):=by
 rw[Array.perm_iff_toList_perm]
 simp only[Array.toList_append,zOW]
 exact m.perm
theorem Mid.lastA{a b out:Array Keyed}{ia ib:Nat}(m:Mid a b out ia ib):(out++b.extract ib b.size++a.extract ia a.size).Perm (a++b):=by
 rw[Array.perm_iff_toList_perm]
 simp only[Array.toList_append,zOW]
 refine List.Perm.trans ?_ m.perm
 simp only[List.append_assoc]
 exact List.Perm.append_left _ List.perm_append_comm
section
variable{prog:Program}{w:World}{A:Around}{E:Value->Shared->Prop}{s:Shared}{a₀:Array Keyed}{kd:SortKind}
def Gal(st st':SortSt):Prop:=∃g,st'=zI7 st g
theorem Gal.refl(st:SortSt):Gal st st:=⟨gallopOf st,rfl⟩
theorem Gal.set{st st':SortSt}(h:Gal st st')(g:Nat):Gal st (zI7 st' g):=by
 obtain⟨g',rfl⟩:=h;exact⟨g,rfl⟩
theorem Gal.kind{st st':SortSt}(h:Gal st st')(hk:kindOf st=kd):kindOf st'=kd:=by
 obtain⟨g',rfl⟩:=h;exact hk
theorem zVE{st:SortSt}{g:Nat}{Q:Unit->SortSt->Prop}(h:Q () (zI7 st g)):wpS (model prog w) A E s (zCZ g) Q st:=by
 rw[zEY];exact wpS_modify h
end
structure MidH(a b out:Array Keyed)(na nb:Nat):Prop where
 perm:(a.toList.take na++b.toList.take nb++out.toList.reverse).Perm (a.toList++b.toList)
 la:na<=a.size
 lb:nb<=b.size
 sz:out.size+na+nb=a.size+b.size
theorem zI8(a:Array Keyed)(n:Nat)(h:n-1<a.size)(h0:1<=n):a.toList.take n=a.toList.take (n-1)++[a[n-1]]:=by
 obtain⟨m,rfl⟩:∃m,n=m+1:=⟨n-1,by lia⟩
 have h':m<a.toList.length:=by simpa using h
 simp only[Nat.add_sub_cancel]
 rw[List.take_succ_eq_append_getElem h']
 simp
theorem MidH.pushA{a b out:Array Keyed}{na nb:Nat}(m:MidH a b out na nb)(h0:1<=na)(h:na-1<a.size):MidH a b (out.push a[na-1]) (na-1) nb:=by
 refine⟨?_,by lia,m.lb,by rw[Array.size_push];have:=m.sz;lia⟩
 have p:=m.perm
 rw[zI8 a na h h0] at p
 refine List.Perm.trans ?_ p
 rw[Array.toList_push,List.reverse_append]
 simp only[List.append_assoc,List.singleton_append,List.reverse_cons,List.reverse_nil,List.nil_append,List.cons_append]
 exact List.Perm.append_left _ List.perm_middle
theorem MidH.pushB{a b out:Array Keyed}{na nb:Nat}(m:MidH a b out na nb)(h0:1<=nb)(h:nb-1<b.size):MidH a b (out.push b[nb-1]) na (nb-1):=by
 refine⟨?_,m.la,by lia,by rw[Array.size_push];have:=m.sz;lia⟩
 have p:=m.perm
 rw[zI8 b nb h h0] at p
 rw[Array.toList_push,List.reverse_append]
 simpa only[List.append_assoc,List.singleton_append,List.reverse_cons,List.reverse_nil,List.nil_append,List.cons_append] using p
theorem zKY(a:Array Keyed)(i n:Nat)(h:i<=n):a.toList.take i++(a.extract i n).toList=a.toList.take n:=by
 rw[Array.toList_extract]
 show a.toList.take i++(a.toList.drop i).take (n-i)=_
 conv=>rhs;rw[show n=i+(n-i) by lia]
 rw[List.take_add]
theorem zL9(a:Array Keyed)(i:Nat):(a.extract 0 i).toList=a.toList.take i:=by
 have:=zKY a 0 i (Nat.zero_le _)
 simpa using this
theorem MidH.done{a b out:Array Keyed}{na nb:Nat}(m:MidH a b out na nb):(a.extract 0 na++b.extract 0 nb++out.reverse).Perm (a++b):=by
 rw[Array.perm_iff_toList_perm]
 simp only[Array.toList_append,zL9,Array.toList_reverse]
 exact m.perm
theorem MidH.firstB{a b out:Array Keyed}{na nb:Nat}(m:MidH a b out na nb):(b.extract 0 nb++a.extract 0 na++out.reverse).Perm (a++b):=by
 rw[Array.perm_iff_toList_perm]
 simp only[Array.toList_append,zL9,Array.toList_reverse]
 refine List.Perm.trans ?_ m.perm
 exact List.Perm.append_right _ List.perm_append_comm
section
variable{prog:Program}{w:World}{A:Around}{E:Value->Shared->Prop}{s:Shared}{a₀:Array Keyed}{kd:SortKind}
end
theorem zOX(c:List Keyed):∀(a:Array Keyed) (sa k:Nat),sa+k+c.length<=a.size ->
  ((c.zipIdx k).foldl (λa (p:Keyed×Nat)=>a.setIfInBounds (sa+p.2) p.1) a).toList=a.toList.take (sa+k)++c++a.toList.drop (sa+k+c.length):=by
 induction c with
 |nil=>intro a sa k h;simp
 |cons x r ih =>
  intro a sa k h
  rw[List.zipIdx_cons,List.foldl_cons]
  have hl:(x::r).length=r.length+1:=rfl
  rw[ih (a.setIfInBounds (sa+k) x) sa (k+1) (by rw[Array.size_setIfInBounds];lia)]
  have hlt:sa+k<a.toList.length:=by simp;lia
  rw[Array.toList_setIfInBounds]
  rw[show sa+(k+1)=(sa+k)+1 by lia]
  rw[List.take_succ_eq_append_getElem (by simpa using hlt),List.take_set_of_le (Nat.le_refl _),List.getElem_set_self,List.drop_set_of_lt (by lia)]
  rw[show sa+k+1+r.length=sa+k+(x::r).length by rw[hl];lia]
  simp
theorem zOY{a c:Array Keyed}{sa sb nb:Nat}(h1:sa<=sb)(h2:sb+nb<=a.size)(hp:c.Perm (a.extract sa sb++a.extract sb (sb+nb))) :
  (c.toList.zipIdx.foldl (λa (p:Keyed×Nat)=>a.setIfInBounds (sa+p.2) p.1) a).Perm a:=by
 have hl:c.toList.length=(sb-sa)+nb:=by
  have:=hp.size_eq
  rw[Array.size_append,Array.size_extract,Array.size_extract] at this
  simp
  lia
 rw[Array.perm_iff_toList_perm,zOX c.toList a sa 0 (by lia)]
 have hp':=Array.perm_iff_toList_perm.mp hp
 rw[Array.toList_append] at hp'
 have e1:=zKY a sa sb h1
 have e2:=zKY a sb (sb+nb) (by lia)
 have e3:=List.take_append_drop (sb+nb) a.toList
 have q:(a.toList.take (sa+0)++c.toList++a.toList.drop (sa+0+c.toList.length)).Perm (a.toList.take sa++((a.extract sa sb).toList++(a.extract sb (sb+nb)).toList)++a.toList.drop (sb+nb)):=by
  rw[show sa+0=sa by lia,show sa+c.toList.length=sb+nb by lia]
  exact List.Perm.append_right _ (List.Perm.append_left _ hp')
 refine q.trans ?_
 rw[<-List.append_assoc,e1,e2,e3]
section
variable{prog:Program}{w:World}{A:Around}{E:Value->Shared->Prop}{s:Shared}{a₀:Array Keyed}{kd:SortKind}
theorem zVF{st st2:SortSt}{Q:PUnit->SortSt->Prop}(h:Q ⟨⟩ st2):wpS (model prog w) A E s (set st2:StateT SortSt Sem PUnit) Q st:=by
 unfold wpS;rw[StateT.run_set];exact wpAny_pure ⟨rfl,h⟩
end
abbrev Run:=Nat×Nat×Nat
section
variable{prog:Program}{w:World}{A:Around}{E:Value->Shared->Prop}{s:Shared}{a₀:Array Keyed}{kd:SortKind}
theorem zYZ{c:Prop}[Decidable c]{a b n:Nat}(h1:a<=n)(h2:b<=n):(if c then a else b)<=n:=by
 split
 ·exact h1
 ·exact h2
end
end TS
namespace L2
open PySem PySem.Spec PyProof.Rows
def PTs(X:Cx)(ifs:List Expr)(t:TT):Prop :=
 ∀(pins:List (Addr×Obj)) (s:Shared) (σ:St) (H:Hp) (Q:Bool->Hp->Prop),Inv X pins σ H s->t σ H Q ->
  wpAny (model X.prog X.w) X.A (forIn ifs true λc r=>if r=true then do let ok <-isTrue c X.env (eval c X.env);pure (ForInStep.yield ok) else pure (ForInStep.yield r)) (TP X pins σ Q) X.xe s
def yCU:TT:=λ_ H Q=>Q true H
theorem pts_nil{X:Cx}:PTs X [] yCU:=λ_ _ _ H _ I h=>wpAny_tests_nil ⟨H,I,h⟩
theorem zVG{X:Cx}{c:Expr}{t:TT}(h:PT X c t):PTs X [c] t:=λpins s σ H Q I hw=>wpAny_tests_one (h pins s σ H Q I hw)
noncomputable def zAT(X:Cx)(scope:Scope)(cl:List (Str×Addr))(nm:List Str)(C:Addr)(s:Shared)(H:Hp)(fp:List Addr):Cx where
 prog:=X.prog
 w:=X.w
 K:=X.K
 mg:=X.mg
 base:=X.base
 A:=X.A
 N:=nm
 s₀:=s
 H₀:=H
 env:=compEnvC scope cl C X.env
 outer:=X.stack
 stack:=X.stack
 ex:=fp
 fn:=λ_=>false
 calm:=X.calm
 pn:=[]
 xe:=λ_ _=>False
noncomputable def zC8(k:Nat)(js:List Nat)(σ:St):St:=List.replicate k none++js.map λj=>(σ[j]?).getD none
structure CompNm(X:Cx)(scope:Scope)(cl:List (Str×Addr))(own caps:List Str)(js:List Nat):Prop where
 clos:closureFor scope X.env=pure cl
 kind:scope.kind=.function
 nocell:∀y∈scope.names,y.2≠.cell
 loc:∀y∈scope.names,y.2=.local->scope.names.lookup y.1=some .local
 dom:∀y∈scope.names,y.2=.free->y.1∈caps
 nm:cl.map (·.1)=caps
 cells:∀p∈cl,X.env.cells.lookup p.1=some p.2
 slot:caps.map some=js.map λj=>X.N[j]?
 vis:∀x∈caps,X.env.kindOf x=some .cell\/X.env.kindOf x=some .free
 fr:∀x∈caps,(relabel scope X.env).names.lookup x=some .cell\/(relabel scope X.env).names.lookup x=some .free
 no:∀x∈own,x∉caps
 dis:∀x∈own,scope.names.lookup x=some .local
theorem zCN{α β:Type}[BEq α][LawfulBEq α]:∀{l:List (α×β)} {x:α} {c:β},l.lookup x=some c->(x,c)∈l
 |[],_,_,h=>by simp at h
 |(a,b)::r,x,c,h=>by
  rw[List.lookup_cons] at h
  cases e:x==a with
  |true=>rw[e] at h;cases h;have:=eq_of_beq e;subst this;exact List.mem_cons_self
  |false=>rw[e] at h;exact List.mem_cons_of_mem _ (zCN h)
theorem zCK{α β:Type}[BEq α][LawfulBEq α]:∀{l:List (α×β)} {x:α},x∈l.map (·.1)->∃c,l.lookup x=some c
 |[],_,h=>by simp at h
 |(a,b)::r,x,h=>by
  rw[List.lookup_cons]
  cases e:x==a with
  |true=>exact⟨b,rfl⟩
  |false =>
   refine zCK ?_
   rcases List.mem_cons.mp h with q|q
   ·have q:x=a:=q
    subst q;simp at e
   ·exact q
theorem zCF{env:Env}:∀{names:List (Str×NameKind)} {x:Str} {k:NameKind},(names.map λ(n,k)=>if(k==NameKind.free&&env.scope.kind==.function&&env.kindOf n==some .cell) then(n,NameKind.cell) else(n,k)).lookup x=some k ->
  (k=.cell\/k=.free)->∃k',(x,k')∈names/\(k'=.cell\/k'=.free)
 |[],_,_,h,_=>by simp at h
 |(n,k0)::r,x,k,h,hk=>by
  rw[List.map_cons,List.lookup_cons] at h
  by_cases hc:(k0==NameKind.free&&env.scope.kind==.function&&env.kindOf n==some .cell)=true
  ·simp only[hc,if_true] at h
   cases e:x==n with
   |true =>
    have:=eq_of_beq e;subst this
    have hf:k0=.free:=by
     have:=(Bool.and_eq_true_iff.mp (Bool.and_eq_true_iff.mp hc).1).1
     exact eq_of_beq this
    exact⟨k0,List.mem_cons_self,.inr hf⟩
   |false =>
    rw[e] at h
    obtain⟨k',h1,h2⟩:=zCF h hk
    exact⟨k',List.mem_cons_of_mem _ h1,h2⟩
  ·simp only[hc,if_false,Bool.false_eq_true] at h
   cases e:x==n with
   |true =>
    rw[e] at h
    have:=eq_of_beq e;subst this
    cases h
    exact⟨k0,List.mem_cons_self,hk⟩
   |false =>
    rw[e] at h
    obtain⟨k',h1,h2⟩:=zCF h hk
    exact⟨k',List.mem_cons_of_mem _ h1,h2⟩
section
variable{X:Cx}{scope:Scope}{cl:List (Str×Addr)}{own caps:List Str}{js:List Nat}
theorem CompNm.cl_of(n:CompNm X scope cl own caps js){x:Str}{c:Addr}(h:cl.lookup x=some c):X.env.cells.lookup x=some c:=n.cells _ (zCN h)
theorem CompNm.has(n:CompNm X scope cl own caps js){x:Str}(h:x∈caps):∃c,cl.lookup x=some c:=zCK (by rw[n.nm];exact h)
theorem Inv.stk_of{pins:List (Addr×Obj)}{σ:St}{H:Hp}{s:Shared}{b:Addr}(I:Inv X pins σ H s)(hf:FpOk X pins H b):b∉frs X.stack:=λz=>by
 rcases List.mem_cons.mp (I.stkSub b z) with e|e
 ·exact hf.2.1 e
 ·exact hf.2.2.1 e
theorem zNG{pins:List (Addr×Obj)}{σ:St}{H:Hp}{s:Shared}{fp:List Addr}{h₁:Heap}{m:Str->Option Value}{tk:Nat}{own':List Str}(n:CompNm X scope cl own caps js)(I:Inv X pins σ H s)(hf:∀b∈fp,FpOk X pins H b)
  (hlt:∀b∈fp,b<s.heap.objs.size) (hns:h₁.Ns s.heap.objs.size m) (old:∀b o,s.heap.get? b=some o->h₁.get? b=some o) :
  Inv (zAT X scope cl (own++caps) s.heap.objs.size s H fp) [] (zC8 own.length js σ) H { s with heap:=h₁,toks:=tk }:=by
 have hl:js.length=caps.length:=by
  have:=congrArg List.length n.slot
  simpa using this.symm
 refine⟨⟨I.tab,I.ok.mod,n.kind,I.ok.glob,I.ok.blt,Nat.le_refl _,λx y c h1 h2=>I.ok.inj x y c (n.cl_of h1) (n.cl_of h2),λx hx=>?_,(λx c h=>nomatch h),I.ok.hd,I.ok.frames,.inl rfl,λb hb=>⟨Nat.ne_of_lt (hlt b hb),λx c e=>(hf b hb).2.2.2.2.1 x c (n.cl_of e)⟩,
   I.bs,Nat.le_trans I.ok.bsz I.sz,λb o e hb=>?_,λb hb=>I.stk_of (hf b hb),I.stack,I.stkFree⟩,
  rfl,I.bare,Un.kept old,⟨m,hns,λi x v e1 e2 e3=>?_⟩,λx c e=>?_,I.hok.fresh (Nat.le_refl _),λx c e=>I.freeC x c (n.cl_of e),(λp hp=>nomatch hp),I.hok.kept old,?_⟩
 ·have hx:(relabel scope X.env).names.lookup x=some .cell\/(relabel scope X.env).names.lookup x=some .free:=hx
  have key:∃k',(x,k')∈scope.names/\(k'=.cell\/k'=.free):=by
   rcases hx with h|h
   ·exact zCF h (.inl rfl)
   ·exact zCF h (.inr rfl)
  obtain⟨k',h1,h2⟩:=key
  rcases h2 with h2|h2
  ·exact absurd h2 (n.nocell _ h1)
  ·exact n.has (n.dom _ h1 h2)
 ·obtain⟨_,_,_,h4,_⟩:=hf b hb
  rcases h4 with h4|h4
  ·exact I.ok.noex b o e h4
  ·exact absurd (Nat.lt_of_lt_of_le (Heap.lt_size e) I.ok.bsz) (Nat.not_lt.mpr h4)
 ·-- a captured name
  have hi:own.length<=i:=by
   rcases Nat.lt_or_ge i own.length with h|h
   ·unfold zC8 at e2
    rw[List.getElem?_append_left (by simpa using h),List.getElem?_replicate,if_pos h] at e2
    cases e2
   ·exact h
  have e1:(own++caps)[i]?=some x:=e1
  rw[List.getElem?_append_right hi] at e1
  unfold zC8 at e2
  rw[List.getElem?_append_right (by simpa using hi),List.length_replicate,List.getElem?_map] at e2
  cases ej:js[i-own.length]? with
  |none=>rw[ej] at e2;cases e2
  |some j =>
   rw[ej] at e2
   have e2:some ((σ[j]?).getD none)=some (some v):=e2
   have hj:X.N[j]?=some x:=by
    have q:=congrArg (λl=>l[i-own.length]?) n.slot
    simp only[List.getElem?_map,e1,ej,Option.map_some] at q
    exact(Option.some.inj q).symm
   have hv:σ[j]?=some (some v):=by
    cases es:σ[j]? with
    |none=>rw[es] at e2;cases e2
    |some o=>rw[es] at e2;exact e2
   have hxc:x∈caps:=List.mem_of_getElem? e1
   obtain⟨m0,hn0,hl0⟩:=I.loc
   have vis:Vis X.env.scope x:=by
    rcases n.vis x hxc with k|k
    ·exact .inr (.inl k)
    ·exact .inr (.inr k)
   obtain⟨u,r,lk⟩:=hl0 j x v hj hv vis
   refine⟨u,r,.inr ⟨n.fr x hxc,?_⟩⟩
   obtain⟨c,hc⟩:=n.has hxc
   refine⟨c,hc,?_⟩
   rcases lk with⟨k,_⟩|⟨_,c',hc',z⟩
   ·rcases n.vis x hxc with k'|k'
    ·rw[k] at k';cases k'
    ·rw[k] at k';cases k'
   ·rw[n.cl_of hc] at hc'
    cases hc'
    obtain⟨o,ho,hd⟩:=z
    exact⟨o,old _ _ ho,hd⟩
 ·obtain⟨v,o,ho,hd⟩:=I.cell x c (n.cl_of e)
  exact⟨v,o,old _ _ ho,hd⟩
 ·show(zC8 own.length js σ).length=(own++caps).length
  unfold zC8
  rw[List.length_append,List.length_append,List.length_replicate,List.length_map,hl]
end
abbrev TM:=St->Hp->(St->Hp->Prop)->Prop
def PM(X:Cx)(m:Sem Unit)(t:TM):Prop :=
 ∀(pins:List (Addr×Obj)) (s:Shared) (σ:St) (H:Hp) (N:St->Hp->Prop),Inv X pins σ H s->t σ H N->wpAny (model X.prog X.w) X.A m (λ_ s'=>∃σ' H',Inv X pins σ' H' s'/\N σ' H') (λ_ _=>False) s
def tWalkC(J:It)(g:TG)(tt:TT)(tm:TM):TM:=λσ H N=>∃W:Nat->Nat->St->Hp->Prop,(∃m,W 0 m σ H)/\∀i m σ H,W i m σ H ->
 (J.stop i H/\N σ H)\/(J.go i H/\∀x H',J.yld i H x H'->g x σ H' λσ2 H2=>tt σ2 H2 λb H3 =>
  if b=true then tm σ2 H3 (λσ4 H4=>∃m',m'<m/\W (i+1) m' σ4 H4) else ∃m',m'<m/\W (i+1) m' σ2 H3)
theorem zTY{Y:Cx}{e:Expr}{d:Nat}{it:Addr}{acc:Value}{tg:Expr}{ifs:List Expr}{pp:Pos}{m:Sem Unit}{g:TG}{tt:TT}{tm:TM}{J:It}{fp:List Addr}{tn:Nat->Heap->Prop}{N:St->Hp->Prop}{R:Result->Shared->Prop}
  (hund:Y.A.under (.compLoop e d (.ref it) acc Y.env)=Y.A) (hden:(model Y.prog Y.w).den (.compLoop e d (.ref it) acc Y.env)=(compTurn e d (.ref it) acc Y.env).onRaise (λx=>do noteFrame x Y.env;theTreesLotGoes x))
  (hturn:compTurn e d (.ref it) acc Y.env=(do
   standAt pp
   match <-pyNext (.ref it) with
   |none=>pure (.done .next)
   |some v =>
    letOwnedTupleGo tg (.ref it) v
    assign tg Y.env v
    let mut ok:=true
    for c in ifs do
     if ok then ok <-isTrue c Y.env (eval c Y.env)
    if ok then m
    again (.compLoop e d (.ref it) acc Y.env)))
  (hx:Y.xe=λ_ _=>False) (hc:Y.calm=true) (hg:PG Y tg g) (ht:PTs Y ifs tt) (hm:PM Y m tm) (T:Turn Y.prog Y.w Y.K tg J fp it tn)
  {pins:List (Addr×Obj)} {σ:St} {H:Hp} {s:Shared} (I:Inv Y pins σ H s) (st:tn 0 s.heap) (f:∀b∈fp,FpOk Y pins H b) (h:tWalkC J g tt tm σ H N)
  (hR:∀σ' H' s',Inv Y pins σ' H' s'->N σ' H'->R (.ok .next) s') :
  codeAny (model Y.prog Y.w) Y.A (.compLoop e d (.ref it) acc Y.env) R s:=by
 obtain⟨W,⟨m0,w0⟩,turn⟩:=h
 have stat:∀{H':Hp},(∀b∈fp,H' b=none)->∀b∈fp,FpOk Y pins H' b:=λhn b hb=>⟨hn b hb,(f b hb).2⟩
 have hxe:∀{α:Type} {t:Sem α} {Q:α->Shared->Prop} {s:Shared} {E:Value->Shared->Prop},wpAny (model Y.prog Y.w) Y.A t Q Y.xe s->wpAny (model Y.prog Y.w) Y.A t Q E s:=λh=>wpAny_mono h (λ_ _ q=>q) λ_ _ z=>by rw[hx] at z;exact z.elim
 refine codeAny_loop rfl (λk s'=>∃i σ' H',Inv Y pins σ' H' s'/\tn i s'.heap/\(∀b∈fp,H' b=none)/\W i k σ' H') (λn s3 hI=>?_) m0 ⟨0,σ,H,I,st,λb hb=>(f b hb).1,w0⟩
 obtain⟨i,σ3,H3,I3,st3,fr3,w3⟩:=hI
 rw[hund,hden]
 refine wpAny_noted ?_
 rw[hturn]
 refine wpAny_bind (wpAny_standAt (wpAny_bind ?_))
 rcases turn i n σ3 H3 w3 with⟨stop,qn⟩|⟨go,step⟩
 ·refine thn (T.done Y rfl rfl rfl hc i pins s3 σ3 H3 _ I3 (stat fr3) st3 stop) λr s4 ⟨hr,I4⟩=>?_
  subst hr
  exact wpAny_pure (hR _ _ _ I4 qn)
 ·refine thn (T.item Y rfl rfl rfl hc i pins s3 σ3 H3 _ I3 (stat fr3) st3 go) λr s4 ⟨u,hr,h4⟩=>?_
  subst hr
  refine wpAny_bind (thn h4 λ_ s5 ⟨x,H5,I5,r5,y5,st5,fr5⟩=>?_)
  have I5':=I5.pinned (stat fr5) (T.obj _ _ st5)
  refine wpAny_bind (thn (hxe (hg _ s5 σ3 H5 x u _ I5' r5 (step x H5 y5))) λ_ s6 ⟨σ6,H6,I6,q6⟩=>?_)
  have again:∀{σ7:St} {H7:Hp} {s7:Shared},Inv Y (pins++zIU fp s5.heap) σ7 H7 s7->(∃m',m'<n/\W (i+1) m' σ7 H7)->∃m,m<n/\∃i σ' H',Inv Y pins σ' H' s7/\tn i s7.heap/\(∀b∈fp,H' b=none)/\W i m σ' H':=λ{σ7 H7 s7} I7 ⟨m',hm,w7⟩=>by
   refine⟨m',hm,i+1,σ7,H7,I7.unpinned,T.keep _ _ _ st5 λb hb o e=>(I7.pin (b,o) (List.mem_append_right _ (List.mem_append_right _ (zDJ hb e)))).1,λb hb=>?_,w7⟩
   obtain⟨o,e,d⟩:=T.obj _ _ st5 b hb
   exact(I7.pin (b,o) (List.mem_append_right _ (List.mem_append_right _ (zDJ hb e)))).2.1
  refine wpAny_bind (thn (hxe (ht _ s6 σ6 H6 _ I6 q6)) λb s7 ⟨H7,I7,q7⟩=>?_)
  cases b with
  |false=>exact wpAny_pure ⟨rfl,again I7 q7⟩
  |true =>
   exact wpAny_bind (wpAny_mono (hm _ s7 σ6 H7 _ I7 q7) (λ_ s8 ⟨σ8,H8,I8,q8⟩=>wpAny_pure ⟨rfl,again I8 q8⟩) λ_ _ z=>z.elim)
section
variable{X:Cx}{scope:Scope}{cl:List (Str×Addr)}{own caps:List Str}{js:List Nat}
def zGN(wi:TI)(k:Nat)(js:List Nat)(o:HO)(g:Hp->TG)(tt:Hp->TT)(tm:Hp->Addr->TM):TE:=λσ H Q=>wi σ H λJ H1=>∀acc,H1 acc=none ->
 tWalkC J (g (upd H1 acc o)) (tt (upd H1 acc o)) (tm (upd H1 acc o) acc) (zC8 k js σ) (upd H1 acc o) λ_ H'=>Q (.ref acc) H'
theorem zDL{pins:List (Addr×Obj)}{σ:St}{H1:Hp}{s2:Shared}{E:Value->Shared->Prop}{e tg:Expr}{ifs:List Expr}{pp:Pos}{newAcc:Sem Value}{obj:Obj}{o:HO}{m:Addr->Env->Sem Unit}{g:Hp->TG}{tt:Hp->TT}{tm:Hp->Addr->TM}{J:It}{fp:List Addr}{it:Addr}{tn:Nat->Heap->Prop}{Q:VK}
  {RR:Value->Addr->Result->Shared->Prop}
  (hnew:∀{Q:Value->Shared->Prop} {s:Shared},Q (.ref s.heap.objs.size) { s with heap:=s.heap.push obj }->wpAny (model X.prog X.w) X.A newAcc Q E s)
  (hobj:ObjOk X.prog X.w (upd H1 s2.heap.objs.size o) (s2.heap.push obj) s2.heap.objs.size o)
  (hund:∀acc env,X.A.under (.compLoop e 0 (.ref it) acc env)=X.A) (hden:∀acc env,(model X.prog X.w).den (.compLoop e 0 (.ref it) acc env)=(compTurn e 0 (.ref it) acc env).onRaise (λx=>do noteFrame x env;theTreesLotGoes x))
  (hturn:∀acc env,compTurn e 0 (.ref it) (.ref acc) env=(do
   standAt pp
   match <-pyNext (.ref it) with
   |none=>pure (.done .next)
   |some v =>
    letOwnedTupleGo tg (.ref it) v
    assign tg env v
    let mut ok:=true
    for c in ifs do
     if ok then ok <-isTrue c env (eval c env)
    if ok then m acc env
    again (.compLoop e 0 (.ref it) (.ref acc) env)))
  (hstart:∀{acc:Value} {env:Env} {R:Result->Shared->Prop} {s:Shared},codeAny (model X.prog X.w) X.A (.compLoop e 0 (.ref it) acc env) R s->wpAny (model X.prog X.w) X.A (pyIter (.ref it)) (λit' s'=>codeAny (model X.prog X.w) X.A (.compLoop e 0 it' acc env) R s')
   (notedBy (model X.prog X.w) X.A env λx s'=>R (.error x) s') s->codeAny (model X.prog X.w) X.A (.compStart e 0 (.ref it) acc env) R s)
  (n:CompNm X scope cl own caps js) (hc:X.calm=true) (hg:∀C s H fp,PG (zAT X scope cl (own++caps) C s H fp) tg (g H)) (ht:∀C s H fp,PTs (zAT X scope cl (own++caps) C s H fp) ifs (tt H))
  (hm:∀C s H fp acc,PM (zAT X scope cl (own++caps) C s H fp) (m acc (compEnvC scope cl C X.env)) (tm H acc))
  (I2:Inv X pins σ H1 s2) (T:Turn X.prog X.w X.K tg J fp it tn) (st2:tn 0 s2.heap) (f2:∀b∈fp,FpOk X pins H1 b)
  (hW:∀acc,H1 acc=none->tWalkC J (g (upd H1 acc o)) (tt (upd H1 acc o)) (tm (upd H1 acc o) acc) (zC8 own.length js σ) (upd H1 acc o) λ_ H'=>Q (.ref acc) H')
  (hRR:∀acc C H' s' m,Inv X pins σ H' s'->H' C=none->C≠X.env.locals->X.s₀.heap.objs.size<=C->(∀x c,X.env.cells.lookup x=some c->c≠C)->(∀p∈X.pn++pins,p.1≠C)->s'.heap.Ns C m->Q (.ref acc) H'->RR (.ref acc) C (.ok .next) s') :
  wpAny (model X.prog X.w) X.A newAcc (λacc s₃=>wpAny (model X.prog X.w) X.A (newFunctionEnv scope X.env.globals cl [] X.env.qual none .none (some X.env)) (λcenv s₄ =>
   codeAny (model X.prog X.w) X.A (.compStart e 0 (.ref it) acc { cenv with scope:=relabel scope X.env }) (RR acc cenv.locals) s₄) E s₃) E s2:=by
 refine hnew (wpAny_newFunctionEnv n.nocell (by intro y hy;simp at hy) (λh₁ hns₁ hsb₁=>?_) n.kind)
 dsimp only at hns₁ hsb₁ ⊢
 have hnewA:H1 s2.heap.objs.size=none:=I2.hok.fresh (Nat.le_refl _)
 have I3:Inv X pins σ (upd H1 s2.heap.objs.size o) { s2 with heap:=s2.heap.push obj } :=
  I2.laid (t':=s2.toks) (λb u e=>Heap.get?_push_of_some _ e) (Nat.le_refl _) hobj
 have hWa:=hW s2.heap.objs.size hnewA
 generalize hs3:({ s2 with heap:=s2.heap.push obj }:Shared)=s3 at I3
 have hh3:s2.heap.push obj=s3.heap:=by rw[<-hs3]
 have old2:∀b o,s2.heap.get? b=some o->s3.heap.get? b=some o:=λb o e=>by rw[<-hh3];exact Heap.get?_push_of_some _ e
 rw[hh3] at hns₁ hsb₁ ⊢
 have hlt2:∀b∈fp,b<s2.heap.objs.size:=λb hb=>by obtain⟨o,ho,_⟩:=T.obj _ _ st2 b hb;exact Heap.lt_size ho
 have hsz:s3.heap.objs.size=s2.heap.objs.size+1:=by rw[<-hh3,Heap.size_push]
 have f3:∀b∈fp,FpOk X pins (upd H1 s2.heap.objs.size o) b:=λb hb=>by
  obtain⟨q,r⟩:=f2 b hb
  exact⟨by rw[zAE (Nat.ne_of_lt (hlt2 b hb))];exact q,r⟩
 have old3:∀b o,s3.heap.get? b=some o->h₁.get? b=some o:=λb o e=>hsb₁.extBut b o (Nat.ne_of_lt (Heap.lt_size e)) (Heap.get?_push_of_some _ e)
 have e4:({ s2 with heap:=h₁,toks:=s2.toks+([]:List (Str×Value)).length }:Shared)={ s3 with heap:=h₁,toks:=s2.toks+([]:List (Str×Value)).length }:=by rw[<-hs3]
 have IY:=zNG (own':=[]) (tk:=s2.toks+([]:List (Str×Value)).length) n I3 f3 (λb hb=>by rw[hsz];exact Nat.lt_succ_of_lt (hlt2 b hb)) hns₁ old3
 have stY:tn 0 h₁:=T.keep _ _ _ st2 λb hb o e=>old3 b o (old2 b o e)
 have stat:∀b∈fp,FpOk (zAT X scope cl (own++caps) s3.heap.objs.size s3 (upd H1 s2.heap.objs.size o) fp) [] (upd H1 s2.heap.objs.size o) b:=λb hb =>
   ⟨(f3 b hb).1,Nat.ne_of_lt (by show b<s3.heap.objs.size;rw[hsz];exact Nat.lt_succ_of_lt (hlt2 b hb)),I3.stk_of (f3 b hb),.inl hb,λx c e=>(f3 b hb).2.2.2.2.1 x c (n.cl_of e),(λp hp=>nomatch hp)⟩
 have loop:∀s4:Shared,s4={ s3 with heap:=h₁,toks:=s2.toks+([]:List (Str×Value)).length } ->
   codeAny (model X.prog X.w) X.A (.compLoop e 0 (.ref it) (.ref s2.heap.objs.size) (compEnvC scope cl s3.heap.objs.size X.env)) (RR (.ref s2.heap.objs.size) s3.heap.objs.size) s4:=by
  rintro s4 rfl
  refine zTY (Y:=zAT X scope cl (own++caps) s3.heap.objs.size s3 (upd H1 s2.heap.objs.size o) fp) (hund _ _) (hden _ _) (hturn _ _) rfl hc (hg _ _ _ _) (ht _ _ _ _) (hm _ _ _ _ _) T IY stY stat hWa ?_
  intro σ6 H6 s6 I6 q
  have I7:Inv X pins σ H6 s6:=I3.call' I6.os I6.base I6.hok I6.bare λb hb=>by
   obtain⟨_,g1,_,g3,g4,g5⟩:=f3 b hb
   exact⟨g3,g1,g4,g5⟩
  obtain⟨mC,hnC,_⟩:=I6.loc
  exact hRR _ _ H6 s6 mC I7 I6.free (Nat.ne_of_gt I3.lt) I3.sz (λx c e z=>by
    obtain⟨v,zc⟩:=I3.cell x c e
    exact absurd zc.lt (by rw[z];exact Nat.lt_irrefl _))
   (λp hp z=>absurd (Heap.lt_size (I3.pin p hp).1) (by rw[z];exact Nat.lt_irrefl _)) hnC q
 rw[e4]
 exact hstart (loop _ rfl) (T.self _ 0 _ _ _ stY (loop _ rfl))
end
section
variable{X:Cx}{scope:Scope}{cl:List (Str×Addr)}{own caps:List Str}{js:List Nat}
def zI9(acc:Addr)(te:TE):TM:=λσ H N=>te σ H λy H4=>∃ys,H4 acc=some (.lst ys)/\ys.length<sizeLine/\N σ (upd H4 acc (.lst (ys++[y])))
theorem zKZ{acc:Addr}{elt:Expr}{te:TE}(hx:X.xe=λ_ _=>False)(he:PE X elt te):PM X (do let _ <-call (.builtin "list.append") [.ref acc,<-eval elt X.env]) (zI9 acc te):=by
 intro pins s σ H N I h
 have h1:=he pins s σ H _ I h
 rw[hx] at h1
 refine wpAny_bind (thn h1 λyv s10 ⟨y,H10,I10,r10,ys,ha,hz,q⟩=>?_)
 have:=zD4 (X:=X) _ s10 σ H10 (.ref acc) [y] (.ref acc) [yv] (λv H'=>v=.non/\H'=upd H10 acc (.lst (ys++[y]))) I10 rfl (.cons r10 .nil) ⟨_,ys,y,rfl,rfl,ha,hz,rfl,rfl⟩
 refine wpAny_bind (wpAny_mono this (λ_ s11 ⟨v,H11,I11,_,_,eH⟩=>wpAny_pure ⟨σ,H11,I11,?_⟩) λ_ _ z=>by rw[hx] at z;exact z)
 subst eH
 exact q
theorem zOZ{pins:List (Addr×Obj)}{σ:St}{H:Hp}{s:Shared}{a:Addr}{k:Key}{v:V}{u r:Value}{A:Around}{E:Value->Shared->Prop}{kvs:List (Key×V)}{Q:Unit->Shared->Prop}(I:Inv X pins σ H s)(e:H a=some (.dK kvs))(l:kvs.length<sizeLine)(ry:RelV (kV k) u)(rv:RelV v r)
  (h:∀s',Inv X pins σ (upd H a (.dK (zEX kvs k v))) s'->Q () s'):wpAny (model X.prog X.w) A (dictSet a u r) Q E s:=by
 obtain⟨z,hd,vs,rel,dd⟩:=zU8 I.hok e
 have hz:vs.length<=sizeLine:=by rw[<-rel.length];exact z
 have hl:(zEX kvs k v).length<=sizeLine:=by have:=zCY kvs k v;lia
 refine wpAny_dictSet_pairs (hsz:=hz) (zI2 ry) dd λh' dd' hs=>h _ ?_
 have he:∃q,h'.get? a=some q:=let ⟨q,_,_,hq,_⟩:=dd';⟨q,hq⟩
 exact zHK I (by rw[e];exact True.intro) hs he (zOR hl hd (rel.put k rv) dd')
def zO0(acc:Addr)(tk tv:TE):TM:=λσ H N=>tk σ H λx H3=>tv σ H3 λy H4=>∃kvs k,H4 acc=some (.dK kvs)/\x=kV k/\kvs.length<sizeLine/\N σ (upd H4 acc (.dK (zEX kvs k y)))
theorem zRZ {acc : Addr} {kx vx : Expr} {tk tv : TE} {pp : Pos} (hx : X.xe = fun _ _ => False) (hk : PE X kx tk) (hv : PE X vx tv) : PM X (do
            let kv ← eval kx X.env
            let vv ← holding [kv] (eval vx X.env)
            standAt pp
            holding [kv, vv] (dictSet acc kv vv)) (zO0 acc tk tv) := by
  intro pins s σ H N I h
  have h1 := hk pins s σ H _ I h
  rw [hx] at h1
  refine wpAny_bind (thn h1 fun kv s3 ⟨x, H3, I3, r3, q3⟩ => ?_)
  have h2 := hv pins s3 σ H3 _ I3 q3
  rw [hx] at h2
  refine wpAny_bind (wpAny_holding (thn h2 fun vv s4 ⟨y, H4, I4, r4, kvs, k, e, ek, hz, q⟩ => ?_))
  subst ek
  exact wpAny_bind (wpAny_standAt (wpAny_holding (zOZ I4 e hz r3 r4 fun s' I' => ⟨σ, _, I', q⟩)))
def zTZ(wi:TI)(g:TG)(tt:TT)(tm:TM):TM:=λσ H N=>wi σ H λJ H1=>tWalkC J g tt tm σ H1 N
theorem zC0{prog:Program}{w:World}{A:Around}{R:Result->Shared->Prop}{s:Shared} {elt g0 target iter ifs rest scope pos it acc env}
  (h0:codeAny (model prog w) A (.compLoop (.ListComp elt (g0::⟨target,iter,ifs,0⟩::rest) scope pos) 1 it acc env) R s)
  (h:wpAny (model prog w) A (pyIter it) (λit' s'=>codeAny (model prog w) A (.compLoop (.ListComp elt (g0::⟨target,iter,ifs,0⟩::rest) scope pos) 1 it' acc env) R s')
   (notedBy (model prog w) A env λx s'=>R (.error x) s') s) :
  codeAny (model prog w) A (.compStart (.ListComp elt (g0::⟨target,iter,ifs,0⟩::rest) scope pos) 1 it acc env) R s:=by
 refine codeAny_of_tree ?_
 show wpAny _ A ((compStart (.ListComp elt (g0::⟨target,iter,ifs,0⟩::rest) scope pos) 1 it acc env).onRaise (λx=>do noteFrame x env;standAt theWindowsPlace)) _ _ s
 refine wpAny_notedAt ?_
 unfold compStart
 show wpAny _ A (ask >>= _) _ _ s
 refine wpAny_bind (wpAny_askSetting (wpAny_ite ?_))
 split
 ·first
   |exact wpAny_bind (wpAny_pure (wpAny_pure (And.intro rfl h0)))
   |exact wpAny_pure (And.intro rfl h0)
 ·first
   |exact wpAny_bind (wpAny_rule (wpAny_bind (wpAny_standAt (wpAny_bind (wpAny_mono h (λit' s' h'=>wpAny_pure (And.intro rfl h')) λ_ _ x=>x)))))
   |(refine wpAny_bind (wpAny_rule ?_);show wpAny _ _ (standAt iter.pos >>= _) _ _ s;exact wpAny_bind (wpAny_standAt (wpAny_bind (wpAny_mono h (λit' s' h'=>wpAny_pure (And.intro rfl h')) λ_ _ x=>x))))
theorem zVH{acc:Addr}{elt tg iter:Expr}{g0:Comprehension}{ifs:List Expr}{pos:Pos}{wi:TI}{g:TG}{tt:TT}{te:TE}{sc:Scope}(hx:X.xe=λ_ _=>False)(hc:X.calm=true)(hi:PI X tg iter wi)(hg:PG X tg g)(ht:PTs X ifs tt)(he:PE X elt te)
  (hs:∀x,foldedSetIterable iter X.env x=pure x):PM X (do
    let x <-eval iter X.env
    standAt iter.pos
    let x <-foldedSetIterable iter X.env x
    let _ <-runOwn (.compStart (.ListComp elt [g0,⟨tg,iter,ifs,0⟩] sc pos) 1 (<-holding [x] (pyIter x)) (.ref acc) X.env) X.env) (zTZ wi g tt (zI9 acc te)):=by
 intro pins s σ H N I h
 have h1:=hi pins s σ H _ I h
 rw[hx] at h1
 refine wpAny_bind (thn h1 λv s1 h2=>wpAny_bind (wpAny_standAt (wpAny_bind (wpAny_of_eq (hs v) (wpAny_bind (wpAny_holding (thn h2 λitv s2 h3=>?_)))))))
 obtain⟨it,fp,tn,J,H2,e,I2,T,st2,f2,hW⟩:=h3
 subst e
 refine wpAny_bind (wpAny_runOwn (zC0 ?_ (T.self _ 0 _ _ _ st2 ?_)))
 all_goals
  refine zTY (Y:=X) (pp:=iter.pos) (m:=(do let _ <-call (.builtin "list.append") [.ref acc,<-eval elt X.env])) rfl rfl rfl hx hc hg ht (zKZ hx he) T I2 st2 f2 hW ?_
  intro σ' H' s' I' n'
  exact wpAny_pure ⟨σ',H',I',n'⟩
theorem zJA(elt tg iter tg2 iter2:Expr)(ifs ifs2:List Expr)(scope:Scope)(pos:Pos)(it acc:Value)(env:Env) :
  compTurn (.ListComp elt [⟨tg,iter,ifs,0⟩,⟨tg2,iter2,ifs2,0⟩] scope pos) 0 it acc env=(do
   standAt iter.pos
   match <-pyNext it with
   |none=>pure (.done .next)
   |some v =>
    letOwnedTupleGo tg it v
    assign tg env v
    let mut ok:=true
    for c in ifs do
     if ok then ok <-isTrue c env (eval c env)
    if ok then(do
     let x <-eval iter2 env
     standAt iter2.pos
     let x <-foldedSetIterable iter2 env x
     let _ <-runOwn (.compStart (.ListComp elt [⟨tg,iter,ifs,0⟩,⟨tg2,iter2,ifs2,0⟩] scope pos) 1 (<-holding [x] (pyIter x)) acc env) env)
    again (.compLoop (.ListComp elt [⟨tg,iter,ifs,0⟩,⟨tg2,iter2,ifs2,0⟩] scope pos) 0 it acc env)):=by
 simp only[bind_assoc,pure_bind]
 rfl
theorem yAS{elt tg iter tg2 iter2:Expr}{ifs ifs2:List Expr}{pos:Pos}{wi:TI}{wi2:Hp->TI}{g g2:Hp->TG}{tt tt2:Hp->TT}{te:Hp->TE}(n:CompNm X scope cl own caps js)(hc:X.calm=true)(hi:PI X tg iter wi)
  (hg:∀C s H fp,PG (zAT X scope cl (own++caps) C s H fp) tg (g H)) (ht:∀C s H fp,PTs (zAT X scope cl (own++caps) C s H fp) ifs (tt H))
  (hi2:∀C s H fp,PI (zAT X scope cl (own++caps) C s H fp) tg2 iter2 (wi2 H)) (hg2:∀C s H fp,PG (zAT X scope cl (own++caps) C s H fp) tg2 (g2 H)) (ht2:∀C s H fp,PTs (zAT X scope cl (own++caps) C s H fp) ifs2 (tt2 H))
  (he:∀C s H fp,PE (zAT X scope cl (own++caps) C s H fp) elt (te H))
  (hs:∀x,foldedSetIterable iter X.env x=pure x:=by intro _;rfl) (hs2:∀C x,foldedSetIterable iter2 (compEnvC scope cl C X.env) x=pure x:=by intro _ _;rfl) :
  PE X (.ListComp elt [⟨tg,iter,ifs,0⟩,⟨tg2,iter2,ifs2,0⟩] scope pos) (zGN wi own.length js (.lst []) g tt λH acc=>zTZ (wi2 H) (g2 H) (tt2 H) (zI9 acc (te H))):=by
 intro pins s σ H Q I h
 rw[eval_ListComp]
 refine wpAny_comprehension_free (use:=none) rfl hs n.clos n.kind n.loc (wpAny_mono (hi pins s σ H _ I h) (λxv s₁ h₁=>wpAny_mono h₁ (λitv s₂ h₂=>?_) λ_ _ e=>e) λ_ _ e=>e)
 obtain⟨it,fp,tn,J,H2,e,I2,T,st2,f2,hW⟩:=h₂
 subst e
 refine zDL (obj:={ cls:=.type "list",dict:=none,data:=.seq ([]:List Value).toArray }) (pp:=iter.pos) (ifs:=ifs) (tg:=tg) (RR:=λacc C=>compPost (model X.prog X.w) X.A X.xe none (EP X pins σ Q) acc C)
  (m:=λacc env=>(do
    let x <-eval iter2 env
    standAt iter2.pos
    let x <-foldedSetIterable iter2 env x
    let _ <-runOwn (.compStart (.ListComp elt [⟨tg,iter,ifs,0⟩,⟨tg2,iter2,ifs2,0⟩] scope pos) 1 (<-holding [x] (pyIter x)) (.ref acc) env) env))
  (o:=.lst []) (λ{Q s} h=>wpAny_newObj_type h) (show ObjOk _ _ _ _ _ (.lst []) from⟨Nat.zero_le _,[],0,.nil,Heap.get?_push_size _ rfl⟩) (λ_ _=>rfl) (λ_ _=>rfl) (λ_ _=>zJA _ _ _ _ _ _ _ _ _ _ _ _) (λh0 h1=>codeAny_compStart_list h0 h1) n hc hg ht
  (λC s H fp acc=>zVH (X:=zAT X scope cl (own++caps) C s H fp) rfl hc (hi2 C s H fp) (hg2 C s H fp) (ht2 C s H fp) (he C s H fp) (hs2 C)) I2 T st2 f2 hW ?_
 intro acc C H' s' m I' hC h1 h2 h3 h4 hn q
 exact⟨m,hn,λh' sb=>⟨.ref acc,H',I'.turned (t':=s'.toks) (λb o hb e=>sb.extBut b o hb e) hC h1 (.inr h2) h3 h4,rfl,q⟩⟩
theorem zR0 {kx vx tg iter : Expr} {ifs : List Expr} {pos : Pos} {wi : TI} {g : Hp → TG} {tt : Hp → TT} {tk tv : Hp → TE} (n : CompNm X scope cl own caps js) (hc : X.calm = true) (hi : PI X tg iter wi)
    (hg : ∀ C s H fp, PG (zAT X scope cl (own ++ caps) C s H fp) tg (g H)) (ht : ∀ C s H fp, PTs (zAT X scope cl (own ++ caps) C s H fp) ifs (tt H))
    (hk : ∀ C s H fp, PE (zAT X scope cl (own ++ caps) C s H fp) kx (tk H)) (hv : ∀ C s H fp, PE (zAT X scope cl (own ++ caps) C s H fp) vx (tv H))
    (hs : ∀ x, foldedSetIterable iter X.env x = pure x := by intro _; rfl) :
    PE X (.DictComp kx vx [⟨tg, iter, ifs, 0⟩] scope pos) (zGN wi own.length js (.dK []) g tt fun H acc => zO0 acc (tk H) (tv H)) := by
  intro pins s σ H Q I h
  rw [arm_eval_DictComp]
  refine wpAny_comprehension_free (use := none) rfl hs n.clos n.kind n.loc (wpAny_mono (hi pins s σ H _ I h) (fun xv s₁ h₁ => wpAny_mono h₁ (fun itv s₂ h₂ => ?_) fun _ _ e => e) fun _ _ e => e)
  obtain ⟨it, fp, tn, J, H2, e, I2, T, st2, f2, hW⟩ := h₂
  subst e
  refine zDL (obj := { cls := .type "dict", dict := none, data := .dict #[] }) (pp := iter.pos) (ifs := ifs) (tg := tg) (RR := fun acc C => compPost (model X.prog X.w) X.A X.xe none (EP X pins σ Q) acc C)
    (m := fun acc env => (do
            let kv ← eval kx env
            let vv ← holding [kv] (eval vx env)
            standAt { kx.pos with endLine := vx.pos.endLine, endCol := vx.pos.endCol }
            holding [kv, vv] (dictSet acc kv vv)))
    (fun {Q s} h => wpAny_newObj_type h) (zHL s₂.heap I2.big) (fun _ _ => rfl) (fun _ _ => rfl) (fun _ _ => rfl) (fun h0 h1 => codeAny_compStart_dict h0 h1) n hc hg ht
    (fun C s H fp acc => zRZ (X := zAT X scope cl (own ++ caps) C s H fp) rfl (hk C s H fp) (hv C s H fp)) I2 T st2 f2 hW ?_
  intro acc C H' s' m I' hC h1 h2 h3 h4 hn q
  exact ⟨m, hn, fun h' sb => ⟨.ref acc, H', I'.turned (t' := s'.toks) (fun b o hb e => sb.extBut b o hb e) hC h1 (.inr h2) h3 h4, rfl, q⟩⟩
theorem zVI{elt tg iter:Expr}{ifs:List Expr}{pos:Pos}{wi:TI}{g:Hp->TG}{tt:Hp->TT}{te:Hp->TE}(n:CompNm X scope cl own caps js)(hc:X.calm=true)(hi:PI X tg iter wi)
  (hg:∀C s H fp,PG (zAT X scope cl (own++caps) C s H fp) tg (g H)) (ht:∀C s H fp,PTs (zAT X scope cl (own++caps) C s H fp) ifs (tt H)) (he:∀C s H fp,PE (zAT X scope cl (own++caps) C s H fp) elt (te H))
  (hs:∀x,foldedSetIterable iter X.env x=pure x:=by intro _;rfl):PE X (.ListComp elt [⟨tg,iter,ifs,0⟩] scope pos) (zGN wi own.length js (.lst []) g tt λH acc=>zI9 acc (te H)):=by
 intro pins s σ H Q I h
 rw[eval_ListComp]
 refine wpAny_comprehension_free (use:=none) rfl hs n.clos n.kind n.loc (wpAny_mono (hi pins s σ H _ I h) (λxv s₁ h₁=>wpAny_mono h₁ (λitv s₂ h₂=>?_) λ_ _ e=>e) λ_ _ e=>e)
 obtain⟨it,fp,tn,J,H2,e,I2,T,st2,f2,hW⟩:=h₂
 subst e
 refine zDL (obj:={ cls:=.type "list",dict:=none,data:=.seq ([]:List Value).toArray }) (pp:=iter.pos) (ifs:=ifs) (tg:=tg) (RR:=λacc C=>compPost (model X.prog X.w) X.A X.xe none (EP X pins σ Q) acc C)
  (m:=λacc env=>(do let _ <-call (.builtin "list.append") [.ref acc,<-eval elt env]))
  (o:=.lst []) (λ{Q s} h=>wpAny_newObj_type h) (show ObjOk _ _ _ _ _ (.lst []) from⟨Nat.zero_le _,[],0,.nil,Heap.get?_push_size _ rfl⟩) (λ_ _=>rfl) (λ_ _=>rfl) (λ_ _=>rfl) (λh0 h1=>codeAny_compStart_list h0 h1) n hc hg ht
  (λC s H fp acc=>zKZ (X:=zAT X scope cl (own++caps) C s H fp) rfl (he C s H fp)) I2 T st2 f2 hW ?_
 intro acc C H' s' m I' hC h1 h2 h3 h4 hn q
 exact⟨m,hn,λh' sb=>⟨.ref acc,H',I'.turned (t':=s'.toks) (λb o hb e=>sb.extBut b o hb e) hC h1 (.inr h2) h3 h4,rfl,q⟩⟩
theorem zGO{i:Nat}{x:Str}{elt tg iter:Expr}{ifs:List Expr}{pos pos' spos:Pos}{wi:TI}{g:Hp->TG}{tt:Hp->TT}{te:Hp->TE}(n:CompNm X scope cl own caps js)(hc:X.calm=true)(hi:PI X tg iter wi)
  (hg:∀C s H fp,PG (zAT X scope cl (own++caps) C s H fp) tg (g H)) (ht:∀C s H fp,PTs (zAT X scope cl (own++caps) C s H fp) ifs (tt H)) (he:∀C s H fp,PE (zAT X scope cl (own++caps) C s H fp) elt (te H))
  (hN:X.N.Nodup) (hx:X.N[i]?=some x) (hl:X.env.scope.names.lookup x=some .local)
  (hsw:swapsWith (.ListComp elt [⟨tg,iter,ifs,0⟩] scope pos) (some (.Name x pos')) spos.line X.env=pure true)
  (hs:∀x,foldedSetIterable iter X.env x=pure x:=by intro _;rfl):PS X (.Assign [.Name x pos'] (.ListComp elt [⟨tg,iter,ifs,0⟩] scope pos) spos) (zXO (zGN wi own.length js (.lst []) g tt λH acc=>zI9 acc (te H)) (zF6 i)):=by
 intro pins s σ H D I h
 rw[exec_Assign_Name_used _ _ _ _ hsw]
 refine wpAny_bind (wpAny_standAt (wpAny_bind ?_))
 show wpAny _ X.A (do let _ <-comprehension (.ListComp elt [⟨tg,iter,ifs,0⟩] scope pos) scope X.env _ (newList []) false (eval iter X.env) (some (assign (.Name x pos') X.env))) _ _ s
 refine wpAny_bind (wpAny_mono (wpAny_comprehension_free (use:=some (assign (.Name x pos') X.env)) (Q:=λ_ s'=>SP X pins D .next s') rfl hs n.clos n.kind n.loc
  (wpAny_mono (hi pins s σ H _ I h) (λxv s₁ h₁=>wpAny_mono h₁ (λitv s₂ h₂=>?_) λ_ _ e=>e) λ_ _ e=>e)) (λ_ s' hq=>wpAny_pure (wpAny_pure hq)) λ_ _ e=>e)
 obtain⟨it,fp,tn,J,H2,e,I2,T,st2,f2,hW⟩:=h₂
 subst e
 refine zDL (obj:={ cls:=.type "list",dict:=none,data:=.seq ([]:List Value).toArray }) (pp:=iter.pos) (ifs:=ifs) (tg:=tg) (Q:=λx H1=>zF6 i x σ H1 D.nx) (RR:=λacc C=>compPost (model X.prog X.w) X.A X.xe (some (assign (.Name x pos') X.env)) (λ_ s'=>SP X pins D .next s') acc C)
  (m:=λacc env=>(do let _ <-call (.builtin "list.append") [.ref acc,<-eval elt env]))
  (o:=.lst []) (λ{Q s} h=>wpAny_newObj_type h) (show ObjOk _ _ _ _ _ (.lst []) from⟨Nat.zero_le _,[],0,.nil,Heap.get?_push_size _ rfl⟩) (λ_ _=>rfl) (λ_ _=>rfl) (λ_ _=>rfl) (λh0 h1=>codeAny_compStart_list h0 h1) n hc hg ht
  (λC s H fp acc=>zKZ (X:=zAT X scope cl (own++caps) C s H fp) rfl (he C s H fp)) I2 T st2 f2 hW ?_
 intro acc C H' s' m I' hC h1 h2 h3 h4 hn q
 show wpAny _ X.A (assign (.Name x pos') X.env (.ref acc)) _ _ _
 refine wpAny_assign_Name (zIS I' hN hx (.inl hl) (v:=.ref acc) rfl (λs'' I'' sb=>?_) (.inr hl))
 obtain⟨a,sb,ha⟩:=sb
 have hCa:C≠a:=by
  rcases ha with ha|ha
  ·rw[ha];exact h1
  ·exact λz=>h3 x a ha z.symm
 exact⟨m,hn.sameBut sb hCa,λh' sb'=>⟨_,H',I''.turned (t':=s''.toks) (λb o hb e=>sb'.extBut b o hb e) hC h1 (.inr h2) h3 h4,q⟩⟩
end
end L2
namespace TS
open PySem PySem.W PyProof.Rows
section
variable{prog:Program}{w:World}{A:Around}{E:Value->Shared->Prop}{s:Shared}
theorem zJB{vs:List Value}{xs:Array Keyed}(h:xs.Perm (pairsOf vs)):(xs.map (·.2)).toList.Perm vs:=by
 have p:=(Array.perm_iff_toList_perm.mp h).map (·.2)
 rw[pairsOf_toList] at p
 have e:(vs.zip vs).map (·.2)=vs:=List.map_snd_zip (Nat.le_refl _)
 rw[e] at p
 simpa using p
end
end TS
namespace L2
open PySem PySem.Spec PyProof.Rows
theorem Vals.perm{us ws:List Value}(p:ws.Perm us):∀{xs:List V},Vals xs us->∃ys,ys.Perm xs/\Vals ys ws:=by
 induction p with
 |nil=>intro xs r;cases r;exact⟨[],List.Perm.refl _,.nil⟩
 |cons a _ ih =>
  intro xs r
  cases r with
  |cons h t =>
   obtain⟨ys,q,r'⟩:=ih t
   exact⟨_::ys,q.cons _,.cons h r'⟩
 |swap a b l =>
  intro xs r
  cases r with
  |cons h t =>
   cases t with
   |cons h' t'=>exact⟨_::_::_,List.Perm.swap _ _ _,.cons h' (.cons h t')⟩
 |trans _ _ ih1 ih2 =>
  intro xs r
  obtain⟨ys,q,r'⟩:=ih2 r
  obtain⟨zs,q',r''⟩:=ih1 r'
  exact⟨zs,q'.trans q,r''⟩
def zT0(H:Hp)(y:V):Prop:=∃(p:Addr) (n:Int) (ns:List Int),y=.ref p/\H p=some (.tup ((n::ns).map V.int))
theorem zO1{X:Cx}{pins:List (Addr×Obj)}{σ:St}{H:Hp}{s:Shared}(I:Inv X pins σ H s):∀{ys:List V} {us:List Value},Vals ys us->(∀y∈ys,zT0 H y) ->
  ∃fs:List Value,fs.length=us.length/\PySem.W.KatTups s.heap us fs/\(∀v∈fs,∃n t,v=.int n t)/\∀u∈us,∃(p:Addr) (its:List Value) (ns:List Int),u=.ref p/\IsTup s.heap p its.toArray/\IntsAre its ns
 |_,_,.nil,_=>⟨[],rfl,PySem.W.KatTups.nil,(λv hv=>nomatch hv),(λu hu=>nomatch hu)⟩
 |_,_,.cons r t,h=>by
  obtain⟨fs,e1,e2,e3,e4⟩:=zO1 I t λy hy=>h y (List.mem_cons_of_mem _ hy)
  obtain⟨p,n,ns,ey,hp⟩:=h _ List.mem_cons_self
  subst ey
  cases r
  obtain⟨its,rv,tp,_⟩:=I.tuple (SqT.of (K:=X.K) hp)
  have hi:IntsAre its (n::ns):=zB6 rv
  have hi0:=hi
  cases hi with
  |cons _ tk r' =>
   obtain⟨o,ho,hc,k,hd⟩:=id tp
   refine⟨.int n tk::fs,by rw[List.length_cons,List.length_cons,e1],PySem.W.KatTups.cons ho hc hd (by simp) e2,λv hv=>?_,λu hu=>?_⟩
   ·rcases List.mem_cons.mp hv with rfl|hv
    ·exact⟨_,_,rfl⟩
    ·exact e3 v hv
   ·rcases List.mem_cons.mp hu with rfl|hu
    ·exact⟨p,_,n::ns,rfl,tp,hi0⟩
    ·exact e4 u hu
theorem zJC{h h':Heap}(k:∀b o,h.get? b=some o->h'.get? b=some o):∀{us fs:List Value},PySem.W.KatTups h us fs->PySem.W.KatTups h' us fs
 |[],[],_=>PySem.W.KatTups.nil
 |[],_::_,t=>t.elim
 |_::_,[],t=>t.elim
 |_::_,_::_,t=>by
  obtain⟨⟨a,o,xs,n,e,ho,r⟩,t⟩:=t
  exact⟨⟨a,o,xs,n,e,k _ _ ho,r⟩,zJC k t⟩
section
variable{prog:Program}{w:World}{A:Around}{E:Value->Shared->Prop}{s:Shared}
structure RawD(h:Heap)(d:Addr)(es:Array DictEntry)(ep:Nat):Prop where
 ex:∃o,h.get? d=some o/\o.ExactDict/\o.data=.dict es ep
 ns:(d==sysModules)=false
theorem RawD.ty{d:Addr}{es:Array DictEntry}{ep:Nat}(r:RawD s.heap d es ep):s.TypeIs (.ref d) "dict":=let ⟨o,h1,h2,_⟩:=r.ex;⟨o,h1,h2.1⟩
theorem zVJ{d:Addr}{es:Array DictEntry}{ep:Nat}{Q:Value->Shared->Prop}(r:RawD s.heap d es ep)(hf:(es.size:Int)<2 ^ 63)(h:∀t tk,Q (.int es.size t) { s with toks:=tk }) :
  wpAny (model prog w) A (call (.builtin "len") [.ref d]) Q E s:=by
 obtain⟨o,ho,hc,hd⟩:=r.ex
 refine Calls.call_function_entry kind_len plain_len entry_len (args_len1 _) ?_
 unfold Builtin.«len»
 refine wpAny_bind (m:=oneArg "len" _) (wpAny_pure ?_)
 refine wpAny_bind (m:=callSpecial? (.ref d) (Str.ofString "__len__")) (wpAny_callSpecial?_slot (name:=Str.ofString "__len__") r.ty F.slot_dict_len (wpAny_call_entry F.slot_dict_len r.ty F.entry_dict_len ?_ (F.args_dict_len_1 _)))
 show wpAny _ _ (dictSize d >>= _) _ _ s
 unfold dictSize
 refine wpAny_bind (wpAny_bind (wpAny_dictEntries ho hd (wpAny_pure ?_)))
 show wpAny _ _ (Builtin.Dict.pendingCount d >>= _) _ _ s
 refine wpAny_bind (wpAny_pendingCount_other r.ns ?_)
 refine wpAny_bind (wpAny_mkInt (wpAny_pure ⟨_,rfl,?_⟩))
 refine wpAny_bind (wpAny_holding (wpAny_pure (wpAny_bind (wpAny_letGo ?_))))
 show wpAny _ _ (if((es.size:Int)+((0:Nat):Int))<0 then _ else _) _ _ _
 rw[if_neg (by lia)]
 show wpAny _ _ (if((es.size:Int)+((0:Nat):Int))>=2 ^ 63 then _ else _) _ _ _
 rw[if_neg (by lia)]
 have e0:((es.size:Int)+((0:Nat):Int))=(es.size:Int):=by simp
 show wpAny _ _ (retInt ((es.size:Int)+((0:Nat):Int))) _ _ _
 rw[e0]
 exact wpAny_bind (wpAny_mkInt (wpAny_pure ⟨_,rfl,h _ _⟩))
theorem zDM{d:Addr}{es:Array DictEntry}{ep:Nat}{Q:Value->Shared->Prop}(r:RawD s.heap d es ep)
  (h:∀h',(∀b o,s.heap.get? b=some o->h'.get? b=some o)->h'.IsKeyIter s.heap.objs.size d 0 es.size ep->Q (.ref s.heap.objs.size) { s with heap:=h' }):wpAny (model prog w) A (pyIter (.ref d)) Q E s:=by
 obtain⟨o,ho,hc,hd⟩:=r.ex
 refine wpAny_pyIter_slot r.ty F.slot_dict_iter (wpAny_call_entry F.slot_dict_iter r.ty F.entry_dict_iter ?_ (F.args_dict_iter_1 _))
 unfold Builtin.«dict.__iter__» Builtin.Dict.dictSlotNone
 refine wpAny_bind (wpAny_bind (wpAny_notOrdered_dict r.ty (wpAny_pure ?_)))
 unfold Builtin.Dict.showsAll
 show wpAny _ _ ((if _ then _ else _) >>= _) _ _ s
 rw[if_neg (by rw[r.ns];exact Bool.false_ne_true)]
 refine wpAny_bind (wpAny_pure (wpAny_bind (wpAny_dictEntries ho hd (wpAny_bind (wpAny_dictEpoch ho hd ?_)))))
 refine wpAny_bind (wpAny_newObj_type (wpAny_pure ⟨_,rfl,"dict_keyiterator",_,⟨_,Heap.get?_push_size _ rfl,rfl⟩,F.slot_dict_keyiterator_next.lookup,?_⟩))
 exact h _ (λb o e=>Heap.get?_push_of_some _ e) ⟨_,Heap.get?_push_size _ rfl,rfl,by simp[rawInt]⟩
theorem zMA{it d:Addr}{i ep:Nat}{es:Array DictEntry}{Q:Option Value->Shared->Prop}(k:s.heap.IsKeyIter it d i es.size ep)(r:RawD s.heap d es ep)(hi:i<es.size)
  (h:∀h',h'.IsKeyIter it d (i+1) es.size ep->Heap.SameBut it s.heap h'->Q (some es[i].key) { s with heap:=h' }):wpAny (model prog w) A (pyNext (.ref it)) Q E s:=by
 obtain⟨oi,hoi,hci,hdi⟩:=id k
 obtain⟨o,ho,hc,hd⟩:=r.ex
 unfold pyNext
 refine wpAny_bind (wpAny_attempt (wpAny_callSpecial?_slot (name:=Str.ofString "__next__") k.typeIs F.slot_dict_keyiterator_next (wpAny_call_entry F.slot_dict_keyiterator_next k.typeIs F.entry_dict_keyiterator_next ?_ (F.args_dict_keyiterator_next_1 _))))
 refine wpAny_bind (wpAny_pure (wpAny_bind (wpAny_bind ?_)))
 first
  |refine wpAny_bind (wpAny_typeNameOfWhole_keyiter k.typeIs (wpAny_pure (wpAny_bind (wpAny_fieldsOf hoi hdi ?_))))
  |refine wpAny_bind (wpAny_typeNameOf_keyiter k.typeIs (wpAny_pure (wpAny_bind (wpAny_fieldsOf hoi hdi ?_))))
 simp only[show Builtin.Dict_items.ownsTuple "dict_keyiterator"=false by decide,Bool.false_eq_true,if_false]
 show wpAny _ _ (if(Value.ref d==Value.none)=true then _ else _) _ _ s
 rw[if_neg (show ¬((Value.ref d==Value.none)=true) from Bool.false_ne_true)]
 refine wpAny_bind (wpAny_pure (wpAny_bind (wpAny_dictEntries ho hd ?_)))
 rw[if_neg (by simp)]
 refine wpAny_bind (wpAny_pure (wpAny_bind (wpAny_dictEpoch ho hd ?_)))
 rw[if_neg (by simp)]
 refine wpAny_pure ?_
 simp only[show ¬((i:Int)<0) from by lia,if_false,Int.toNat_natCast,Array.getElem?_eq_getElem hi]
 refine wpAny_bind ?_
 first
  |refine wpAny_bind (wpAny_typeNameOfWhole_keyiter k.typeIs (wpAny_pure (wpAny_bind (wpAny_isOneOf_keyiter k.typeIs ?_))))
  |refine wpAny_bind (wpAny_typeNameOf_keyiter k.typeIs (wpAny_pure (wpAny_bind (wpAny_isOneOf_keyiter k.typeIs ?_))))
 show wpAny _ _ (setField (.ref it) 1 (rawInt ((i:Int)+1)) >>= _) _ _ s
 refine wpAny_bind (wpAny_setField hoi hdi (by simp) ?_)
 have k':(s.heap.update it (Obj.mapFields (·.setIfInBounds 1 (rawInt ((i:Int)+1))))).IsKeyIter it d (i+1) es.size ep :=
  ⟨_,Heap.get?_update_self _ hoi (Obj.isFreed_of_fields (Obj.data_mapFields hdi _)),(Obj.cls_mapFields ..).trans hci,by rw[Obj.data_mapFields hdi];simp[rawInt]⟩
 refine wpAny_bind (wpAny_holding (wpAny_bind (wpAny_isOneOf_keyiter (s:={ s with heap:=s.heap.update it (Obj.mapFields (·.setIfInBounds 1 (rawInt ((i:Int)+1)))) }) k'.typeIs ?_)))
 show wpAny _ _ (pure es[i].key) _ _ _
 exact wpAny_pure (wpAny_pure ⟨_,rfl,wpAny_pure (h _ k' (Heap.SameBut.update ..))⟩)
theorem zO2{it d:Addr}{i ep:Nat}{es:Array DictEntry}{Q:Option Value->Shared->Prop}(hh:A.handled=none)(k:s.heap.IsKeyIter it d i es.size ep)(r:RawD s.heap d es ep)(hi:es.size<=i)
  (h:∀h',Heap.ExtBut it s.heap h'->Q none { s with heap:=h' }):wpAny (model prog w) A (pyNext (.ref it)) Q E s:=by
 obtain⟨oi,hoi,hci,hdi⟩:=id k
 obtain⟨o,ho,hc,hd⟩:=r.ex
 unfold pyNext
 refine wpAny_bind (wpAny_attempt (wpAny_callSpecial?_slot (name:=Str.ofString "__next__") k.typeIs F.slot_dict_keyiterator_next (wpAny_call_entry F.slot_dict_keyiterator_next k.typeIs F.entry_dict_keyiterator_next ?_ (F.args_dict_keyiterator_next_1 _))))
 refine wpAny_bind (wpAny_pure (wpAny_bind (wpAny_bind ?_)))
 first
  |refine wpAny_bind (wpAny_typeNameOfWhole_keyiter k.typeIs (wpAny_pure (wpAny_bind (wpAny_fieldsOf hoi hdi ?_))))
  |refine wpAny_bind (wpAny_typeNameOf_keyiter k.typeIs (wpAny_pure (wpAny_bind (wpAny_fieldsOf hoi hdi ?_))))
 simp only[show Builtin.Dict_items.ownsTuple "dict_keyiterator"=false by decide,Bool.false_eq_true,if_false]
 show wpAny _ _ (if(Value.ref d==Value.none)=true then _ else _) _ _ s
 rw[if_neg (show ¬((Value.ref d==Value.none)=true) from Bool.false_ne_true)]
 refine wpAny_bind (wpAny_pure (wpAny_bind (wpAny_dictEntries ho hd ?_)))
 rw[if_neg (by simp)]
 refine wpAny_bind (wpAny_pure (wpAny_bind (wpAny_dictEpoch ho hd ?_)))
 rw[if_neg (by simp)]
 refine wpAny_pure ?_
 simp only[show ¬((i:Int)<0) from by lia,if_false,Int.toNat_natCast,Array.getElem?_eq_none hi]
 refine wpAny_bind ?_
 first
  |refine wpAny_bind (wpAny_typeNameOfWhole_keyiter k.typeIs (wpAny_pure ?_))
  |refine wpAny_bind (wpAny_typeNameOf_keyiter k.typeIs (wpAny_pure ?_))
 show wpAny _ _ (setField (.ref it) 0 .none >>= _) _ _ s
 refine wpAny_bind (wpAny_setField hoi hdi (by simp) ?_)
 show wpAny _ _ (newExc (.type "StopIteration") [] >>= _) _ _ _
 refine wpAny_bind ?_
 simp only[newExc,newTuple]
 refine wpAny_bind (wpAny_newObj_type ?_ (by size_fits))
 refine wpAny_bind (m:=firstArgMember _ _) (wpAny_of_eq (a:=Value.none) (by first|rfl|(simp only[firstArgMember];rfl)) (wpAny_newObj_type ?_ (by size_fits)))
 simp only[raiseNew]
 refine wpAny_bind (wpAny_handled ?_)
 rw[show A.in1.handled=none from hh]
 refine wpAny_bind (wpAny_pure (wpAny_throw ?_))
 refine wpAny_bind (wpAny_isInstance (T:="StopIteration") (b:=true) ⟨_,Heap.get?_push_size _ rfl,rfl⟩ isSubtype_stop ?_)
 exact wpAny_pure (h _ (((Heap.SameBut.update ..).extBut.push _).push _))
end
theorem zGP{P:Program}{w:World}{H:Hp}{h:Heap}{a:Addr}{kvs:List (List Key×V)}(x:ObjOk P w H h a (.dT kvs)):∃es ep,RawD h a es ep/\es.size=kvs.length/\kvs.length<=sizeLine /\
  ∀(i:Nat) (hi:i<es.size),∃(p:Addr) (k:List Key),es[i].key=.ref p/\(kvs.map (·.1))[i]?=some k/\H p=some (.tup (k.map kV)):=by
 obtain⟨z,y,xs,r,o,es,ep,h1,h2,h3,h4,h5⟩:=x
 have hl:es.size=xs.length:=by
  have:=congrArg List.length h4
  simpa using this
 have hl2:kvs.length=xs.length:=Paired.length r
 refine⟨es,ep,⟨⟨o,h1,h2,h3⟩,y⟩,by lia,z,λi hi=>?_⟩
 have key:∀{l:List (List Key×V)} {m:List (List Key×Addr×Value)},Paired (λ(p:List Key×V) (q:List Key×Addr×Value)=>p.1=q.1/\H q.2.1=some (.tup (p.1.map kV))/\RelV p.2 q.2.2) l m ->
   ∀(i:Nat) q,m[i]?=some q->∃k,(l.map (·.1))[i]?=some k/\H q.2.1=some (.tup (k.map kV)):=by
  intro l m q
  induction q with
  |nil=>intro i q e;simp at e
  |@cons p q ps qs hq t ih =>
   intro i z e
   cases i with
   |zero=>simp at e;subst e;exact⟨p.1,by simp,hq.2.1⟩
   |succ i=>obtain⟨k,e1,e2⟩:=ih i z (by simpa using e);exact⟨k,by simpa using e1,e2⟩
 have hi':i<xs.length:=by lia
 obtain⟨k,e1,e2⟩:=key r i xs[i] (by simp[hi'])
 have e3:es[i]=entryOfKey (tupleKind (zA1 P w)) xs[i]:=by
  have q:es.toList[i]?=some es[i]:=by simp[hi]
  rw[h4] at q
  simp[hi'] at q
  exact q.symm
 exact⟨xs[i].2.1,k,by rw[e3];rfl,e1,e2⟩
section
variable{X:Cx}
noncomputable def Itk(d:Addr)(o:Obj)(kvs:List (List Key×V)):It :=
 ⟨λi H=>i<kvs.length/\H d=some (.frz o (.dT kvs)),λi H x H'=>H'=H/\∃p k,x=.ref p/\(kvs.map (·.1))[i]?=some k/\H p=some (.tup (k.map kV)),λi H=>kvs.length<=i/\H d=some (.frz o (.dT kvs))⟩
theorem zJD{P:Program}{w:World}{K:PySem.W.Frag}{tg:Expr}(d it:Addr)(o:Obj)(kvs:List (List Key×V))(es:Array DictEntry)(ep:Nat)(hd:o.data=.dict es ep)(hz:es.size=kvs.length) :
  Turn P w K tg (Itk d o kvs) [it] it (λi h=>h.IsKeyIter it d i es.size ep) where
 mem:=by simp
 obj:=λi h st b hb=>by
  have e:b=it:=by simpa using hb
  subst e
  obtain⟨o,e,c,d⟩:=st
  exact⟨o,e,λv z=>by rw[d] at z;cases z⟩
 keep:=λi h h' st k=>let ⟨o,e,r⟩:=st;⟨o,k it (by simp) o e,r⟩
 item:=by
  intro X hP hw hK hc i pins s σ H E I hf st hg
  subst hP hw hK
  obtain⟨hi,hk⟩:=hg
  obtain⟨ho,hx⟩:=I.hok d _ hk
  obtain⟨es',ep',rw',e1,e2,e3⟩:=zGP hx
  obtain⟨o',q1,q2,q3⟩:=rw'.ex
  rw[ho] at q1;cases q1
  rw[hd] at q3;injection q3 with q4 q5
  subst q4;subst q5
  obtain⟨f0,f1,f2,f3,f4,f5⟩:=hf it (by simp)
  refine zMA st rw' (by lia) λh' st' sb=>?_
  obtain⟨p,k,p1,p2,p3⟩:=e3 i (by lia)
  have I1:Inv X pins σ H { s with heap:=h' }:=I.turned (t':=s.toks) (λb ob hb e=>(sb.2 b hb).trans e) f0 f1 f3 f4 f5
  obtain⟨oi,e,c,dd⟩:=id st'
  refine⟨_,rfl,zOB (s:={ s with heap:=h' }) e c dd (by decide) ⟨.ref p,H,I1,p1,⟨rfl,p,k,rfl,p2,p3⟩,st',λb hb=>(hf b hb).1⟩⟩
 done:=by
  intro X hP hw hK hc i pins s σ H E I hf st hg
  subst hP hw hK
  obtain⟨hi,hk⟩:=hg
  obtain⟨ho,hx⟩:=I.hok d _ hk
  obtain⟨es',ep',rw',e1,e2,e3⟩:=zGP hx
  obtain⟨o',q1,q2,q3⟩:=rw'.ex
  rw[ho] at q1;cases q1
  rw[hd] at q3;injection q3 with q4 q5
  subst q4;subst q5
  obtain⟨f0,f1,f2,f3,f4,f5⟩:=hf it (by simp)
  exact zO2 (I.ok.hd hc) st rw' (by lia) λh' eb=>⟨rfl,I.turned (t':=s.toks) (λb ob hb e=>eb b ob hb e) f0 f1 f3 f4 f5⟩
 self:=λ_ _ _ _ _ st h=>wpAny_pyIter_keyiter st h
theorem Inv.freeze{pins:List (Addr×Obj)}{σ:St}{H:Hp}{s:Shared}{a:Addr}{kvs:List (List Key×V)}(I:Inv X pins σ H s)(ha:H a=some (.dT kvs)) :
  ∃o,s.heap.get? a=some o/\Inv X pins σ (upd H a (.frz o (.dT kvs))) s:=by
 have x:=I.hok a _ ha
 obtain⟨es,ep,⟨⟨o,h1,h2,h3⟩,_⟩,_⟩:=zGP x
 have kt:∀b ys,H b=some (.tup ys)->b≠a:=λb ys e z=>by rw[z,ha] at e;cases e
 have ko:∀b y,H b=some (.own y)->b≠a:=λb y e z=>by rw[z,ha] at e;cases e
 have kf:∀b ob u,H b=some (.frz ob u)->b≠a:=λb ob u e z=>by rw[z,ha] at e;cases e
 have kb:∀b t ps,H b=some (.tbl t ps)->b≠a:=λb t ps e z=>by rw[z,ha] at e;cases e
 have kn:∀b,H b=none->b≠a:=λb e z=>by rw[z,ha] at e;cases e
 refine⟨o,h1,I.un (t':=s.toks) (h':=s.heap) ⟨λb ob e _ _ _=>e,λb ob e _ _ _=>⟨ob.slots,e⟩,λb ob e n _=>by rw[zAE (kn b n)];exact n,λb ob e _=>⟨ob,e⟩,λb ys e=>by rw[zAE (kt b ys e)];exact e,λb ob u e=>by rw[zAE (kf b ob u e)];exact e,λb t ps e=>⟨#[],by rw[zAE (kb b t ps e),e];simp⟩⟩ λb u e=>?_⟩
 by_cases hb:b=a
 ·subst hb
  rw[zAD] at e
  cases e
  exact⟨h1,x.stay (λc v _ q=>q) (λc q=>by rw[zAE (ko c _ q)];exact q) (λc ys q=>by rw[zAE (kt c ys q)];exact q) λc ob x q=>by rw[zAE (kf c ob _ q)];exact q⟩
 ·rw[zAE hb] at e
  exact(I.hok b u e).stay (λc v _ q=>q) (λc q=>by rw[zAE (ko c _ q)];exact q) (λc ys q=>by rw[zAE (kt c ys q)];exact q) λc ob x q=>by rw[zAE (kf c ob _ q)];exact q
theorem zR1:CallR X (.type "range") (λxs H Q=>∃j:Int,xs=[.int j]/\∀p,H p=none->Q (.ref p) (upd H p (.rng 0 j))):=by
 intro pins s σ H xs us Q I r h
 obtain⟨j,rfl,q⟩:=h
 obtain⟨u,rfl,ru⟩:=zEW r
 obtain⟨t,rfl⟩:=ru
 exact call_range_1 ⟨.ref s.heap.objs.size,_,I.laid (o:=.rng 0 j) (λb o e=>Heap.get?_push_of_some _ e) (Nat.le_refl _) ⟨_,_,_,Heap.get?_push_size _ rfl⟩,rfl,q _ I.fresh⟩
theorem zNH:∀(n:Nat) (us:List Value),us.length=n->(∀(i:Nat) v,us[i]?=some v->∃t,v=Value.int (i:Int) t)->Vals ((List.range n).map λi:Nat=>V.int (i:Int)) us:=by
 intro n
 induction n with
 |zero=>intro us hl _;have:=List.length_eq_zero_iff.mp hl;subst this;exact .nil
 |succ n ih =>
  intro us hl h
  have e:us=us.take n++[us[n]'(by lia)]:=by
   rw[<-List.take_succ_eq_append_getElem (by lia),List.take_of_length_le (by lia)]
  rw[e,List.range_succ,List.map_append]
  refine Vals.append (ih _ (by rw[List.length_take];lia) λi v hv=>?_) (.cons ?_ .nil)
  ·rw[List.getElem?_take] at hv
   split at hv
   ·exact h i v hv
   ·cases hv
  ·obtain⟨t,et⟩:=h n (us[n]'(by lia)) (by simp)
   exact⟨t,et⟩
theorem zHN(hc:X.calm=true):CallR X (.type "list") (λxs H Q=>∃(p:Addr) (n:Nat),xs=[.ref p]/\H p=some (.rng 0 (n:Int))/\n<=1000/\∀l,H l=none->Q (.ref l) (upd H l (.lst ((List.range n).map λi:Nat=>V.int (i:Int))))):=by
 intro pins s σ H xs us Q I r h
 obtain⟨p,n,rfl,hp,hn,q⟩:=h
 obtain⟨u,rfl,ru⟩:=zEW r
 cases ru
 obtain⟨t,u,v,e⟩:=(show ObjOk X.prog X.w H s.heap p (.rng 0 (n:Int)) from I.hok p _ hp)
 refine call_list_range (I.ok.hd hc) (show IsRange s.heap p 0 (n:Int) 1 t u v from e) (small_one (by decide) (by decide) (by lia) (by lia)) (n:=n) (by rw[rangeSize_one];first|lia|(split<;>lia)) (by lia) λh' tk acc c k hS hI=>?_
 obtain⟨hz,hi⟩:=hI
 have rv:Vals ((List.range n).map λi:Nat=>V.int (i:Int)) acc.toList:=zNH n _ (by simpa using hz) λi v hv=>by
  obtain⟨t,et⟩:=hi i v (by rw[<-Array.getElem?_toList];exact hv)
  exact⟨t,by rw[et];simp⟩
 refine⟨.ref s.heap.objs.size,_,I.laid (o:=.lst ((List.range n).map λi:Nat=>V.int (i:Int))) k (Nat.le_refl _) ⟨?_,acc.toList,c,rv,by simpa using hS⟩,rfl,q _ I.fresh⟩
 rw[List.length_map,List.length_range,sizeLine_eq]
 lia
end
section
variable{prog:Program}{w:World}{A:Around}{E:Value->Shared->Prop}{s:Shared}
theorem zO3{a:Addr}{Q:Option Obj->Shared->Prop}(h:Q (s.heap.get? a) s):wpAny (model prog w) A (loadIfAlive a) Q E s:=λΓ p hΓ=>by
 show Sem.wp _ Γ (.loadIfAlive a .pure) _ _ p s
 rw[Sem.wp_loadIfAlive]
 exact(wpAny_pure h:wpAny (model prog w) A (pure _) Q E s) Γ p hΓ
end
section
variable{prog:Program}{w:World}{A:Around}{E:Value->Shared->Prop}{s:Shared}
def F0(f0:Value):Prop:=f0=.none\/∃T:Nat,f0=rawInt T
theorem zHO(a:Addr)(h:Heap):Heap.SameBut a h h:=⟨rfl,λ_ _=>rfl⟩
theorem zO4{n k:Nat}(h:k≠0):n≠n+k:=by lia
end
section
variable{X:Cx}{pins:List (Addr×Obj)}{σ:St}{H:Hp}{s:Shared}{h':Heap}
theorem Inv.turnedL{t':Nat}{fp:List Addr}(I:Inv X pins σ H s)(hf:∀b∈fp,FpOk X pins H b)(k:∀b o,b∉fp->s.heap.get? b=some o->h'.get? b=some o):Inv X pins σ H { s with heap:=h',toks:=t' }:=by
 have nit:∀b u,H b=some u->b∉fp:=λb u e z=>by rw[(hf b z).1] at e;cases e
 refine I.step (g':=s.gens) (d':=s.drawn) (ch:=fp) (λb hb=>?_) (λb o _ _ hc e _=>k b o hc e) (λb o _ _ hc e _=>⟨o.slots,k b o hc e⟩) (λ_ _ _ _ n=>n)
  (λb o hc e=>⟨o,k b o hc e⟩) (λ_ _ e=>e) (λ_ _ _ e=>e) (λb t ps e=>⟨#[],by rw[e];simp⟩) (λm hm=>?_) (λb u e=>?_) I.bare
 ·obtain⟨f0,f1,f2,f3,f4,f5⟩:=hf b hb
  exact⟨f3,f1,f4,f5⟩
 ·obtain⟨o,es,ep,ho,r⟩:=hm
  exact⟨o,es,ep,k _ o (λz=>(hf _ z).2.1 rfl) ho,r⟩
 ·refine(I.hok b u e).stay (λc v hc q=>k c v ?_ q) (λ_ q=>q) (λ_ _ q=>q) λ_ _ _ q=>q
  rcases hc with z|z
  ·rw[z];exact nit b u e
  ·exact nit c _ z
end
section
variable{prog:Program}{w:World}{A:Around}{E:Value->Shared->Prop}{s:Shared}
end
section
variable{X:Cx}{tg:Expr}
end
mutual
inductive DV(K:PySem.W.Frag)(H:Hp):V->PyData->Prop
 |non:DV K H .non .none
 |bl (b:Bool):DV K H (.bl b) (.bool b)
 |int (i:Int):DV K H (.int i) (.int i)
 |str (x:Str):PyData.canLay0 (.str x)=true->DV K H (.str x) (.str x)
 |tup {a:Addr} {xs:List V} {ds:List PyData}:SqT K H a xs->DVs K H xs ds->DV K H (.ref a) (.tuple ds)
 |lst {a:Addr} {xs:List V} {ds:List PyData}:SqL K H a xs->DVs K H xs ds->DV K H (.ref a) (.list ds)
inductive DVs(K:PySem.W.Frag)(H:Hp):List V->List PyData->Prop
 |nil:DVs K H [] []
 |cons {x:V} {d:PyData} {xs:List V} {ds:List PyData}:DV K H x d->DVs K H xs ds->DVs K H (x::xs) (d::ds)
end
mutual
theorem DV.can{K:PySem.W.Frag}{H:Hp}:∀{v:V} {d:PyData},DV K H v d->d.canLay0=true
 |_,_,.non=>rfl
 |_,_,.bl _=>rfl
 |_,_,.int _=>rfl
 |_,_,.str _ h=>h
 |_,_,.tup _ h=>by rw[PyData.canLay0];exact DVs.can h
 |_,_,.lst _ h=>by rw[PyData.canLay0];exact DVs.can h
theorem DVs.can{K:PySem.W.Frag}{H:Hp}:∀{v:List V} {d:List PyData},DVs K H v d->PyData.canLayAll0 d=true
 |_,_,.nil=>rfl
 |_,_,.cons h t=>by rw[PyData.canLayAll0,DV.can h,DVs.can t];rfl
end
section
variable{X:Cx}{pins:List (Addr×Obj)}{σ:St}{H:Hp}{s:Shared}
mutual
theorem DV.reads(I:Inv X pins σ H s):∀{v:V} {d:PyData},DV X.K H v d->∀{u:Value},RelV v u->∃as,Reads s.heap u d as
 |_,_,.non,_,r=>by cases r;exact⟨_,.none⟩
 |_,_,.bl b,_,r=>by cases r;exact⟨_,.bool b⟩
 |_,_,.int i,_,r=>by obtain⟨t,rfl⟩:=r;exact⟨_,.int i t⟩
 |_,_,.str x _,_,r=>by obtain⟨t,rfl⟩:=r;exact⟨_,.str x t⟩
 |_,_,.tup hq h,_,r=>by
  cases r
  obtain⟨its,rv,⟨o,ho,hc,n,hd⟩,hz⟩:=I.tuple hq
  obtain⟨as,ra⟩:=DVs.reads I h rv
  exact⟨as,.tuple ho hc hd (by simpa using ra)⟩
 |_,_,.lst hq h,_,r=>by
  cases r
  obtain⟨its,rv,pl,hz⟩:=I.list hq
  obtain⟨o,ho,hc,n,hd⟩:=pl.isList
  obtain⟨as,ra⟩:=DVs.reads I h rv
  exact⟨_,.list ho hc hd (by simpa using ra)⟩
theorem DVs.reads(I:Inv X pins σ H s):∀{v:List V} {d:List PyData},DVs X.K H v d->∀{u:List Value},Vals v u->∃as,ReadsAll s.heap u d as
 |_,_,.nil,_,r=>by cases r;exact⟨_,.nil⟩
 |_,_,.cons h t,_,r=>by
  cases r with
  |cons r1 r2 =>
   obtain⟨as,ra⟩:=DV.reads I h r1
   obtain⟨bs,rb⟩:=DVs.reads I t r2
   exact⟨_,.cons ra rb⟩
end
def yBN(K:PySem.W.Frag)(neg:Bool):R2:=λx y H Q=>∃d e,DV K H x d/\DV K H y e/\min d.depth e.depth<=60/\Q (.bl (if neg then !PyData.eqv d e else PyData.eqv d e)) H
theorem yCV(hu:X.A.units+64<cLine):OpR X (compareOp .Eq) (yBN X.K false):=by
 intro pins s σ H x y v u Q I rx ry h
 obtain⟨d,e,hd,he,hm,q⟩:=h
 obtain⟨as,ra⟩:=hd.reads I rx
 obtain⟨bs,rb⟩:=he.reads I ry
 exact SeqAt.compareEq_reads ra rb hd.can he.can (by lia) ⟨.bl _,H,I,rfl,q⟩
theorem zY0(hu:X.A.units+64<cLine):OpR X (compareOp .NotEq) (yBN X.K true):=by
 intro pins s σ H x y v u Q I rx ry h
 obtain⟨d,e,hd,he,hm,q⟩:=h
 obtain⟨as,ra⟩:=hd.reads I rx
 obtain⟨bs,rb⟩:=he.reads I ry
 exact SeqAt.compareNe_reads ra rb hd.can he.can (by lia) ⟨.bl _,H,I,rfl,q⟩
open Classical in
noncomputable def eqC(h:Heap)(e:PyData)(y:Value):Bool:=if z:∃(d:PyData) (as:List Addr),Reads h y d as then PyData.eqv z.choose e else false
theorem zJE{h:Heap}{e d:PyData}{y:Value}{as:List Addr}(r:Reads h y d as):eqC h e y=PyData.eqv d e:=by
 have z:∃(d:PyData) (as:List Addr),Reads h y d as:=⟨d,as,r⟩
 unfold eqC
 rw[dif_pos z]
 obtain⟨as',r'⟩:=z.choose_spec
 rw[(Reads.unique r _ _ r').1]
theorem zBU{h:Heap}:∀{us:List Value} {ds:List PyData} {as:List Addr},ReadsAll h us ds as->∀u∈us,∃d∈ds,∃bs,Reads h u d bs
 |_,_,_,.nil,u,hu=>by cases hu
 |_,_,_,.cons r t,u,hu=>by
  rcases List.mem_cons.mp hu with rfl|hu
  ·exact⟨_,List.mem_cons_self,_,r⟩
  ·obtain⟨d,hd,bs,q⟩:=zBU t u hu
   exact⟨d,List.mem_cons_of_mem _ hd,bs,q⟩
theorem zBV{h:Heap}{e:PyData}:∀{us:List Value} {ds:List PyData} {as:List Addr},ReadsAll h us ds as->us.any (eqC h e)=ds.any λd=>PyData.eqv d e
 |_,_,_,.nil=>rfl
 |_,_,_,.cons r t=>by rw[List.any_cons,List.any_cons,zJE r,zBV t]
theorem zFL:∀{ds:List PyData},PyData.canLayAll0 ds=true->∀d∈ds,d.canLay0=true
 |[],_,d,hd=>by cases hd
 |x::ds,h,d,hd=>by
  rw[PyData.canLayAll0,Bool.and_eq_true] at h
  rcases List.mem_cons.mp hd with rfl|hd
  ·exact h.1
  ·exact zFL h.2 d hd
def zXP(K:PySem.W.Frag)(neg:Bool):R2:=λx y H Q=>∃p xs ds e,y=.ref p/\(SqL K H p xs\/SqT K H p xs)/\DVs K H xs ds/\DV K H x e/\e.depth<=60 /\
 Q (.bl (if neg then !(ds.any λd=>PyData.eqv d e) else ds.any λd=>PyData.eqv d e)) H
theorem zT1 (hu : X.A.units + 64 < cLine) : OpR X (compareOp .In) (zXP X.K false) := by
  intro pins s σ H x y v u Q I rx ry h
  obtain ⟨p, xs, ds, e, rfl, hq, hds, hx, hm, q⟩ := h
  cases ry
  obtain ⟨bs, rb⟩ := hx.reads I rx
  have hu1 : X.A.in1.units + 61 < cLine := by have : X.A.in1.units ≤ X.A.units + 1 := by first | exact Nat.le_refl _ | simp [Around.in1]
                                              lia
  rcases hq with hq | hq
  · obtain ⟨its, r, pl, hz⟩ := I.list hq
    obtain ⟨as, ra⟩ := hds.reads I r
    refine SeqAt.in_listAt (eqC s.heap e) pl.isList (fun w hw => ?_) ⟨.bl _, H, I, rfl, ?_⟩
    · obtain ⟨d, hd, cs, rd⟩ := zBU ra w (by simpa using hw)
      rw [zJE rd]
      exact SeqAt.eqAt_reads d e _ s w v cs bs rd rb (zFL hds.can d hd) hx.can (by lia)
    · rw [show its.toArray.any (eqC s.heap e) = its.any (eqC s.heap e) by simp, zBV ra]
      exact q
  · obtain ⟨its, r, pl, hz⟩ := I.tuple hq
    obtain ⟨as, ra⟩ := hds.reads I r
    refine SeqAt.in_tupleAt (eqC s.heap e) pl (fun w hw => ?_) ⟨.bl _, H, I, rfl, ?_⟩
    · obtain ⟨d, hd, cs, rd⟩ := zBU ra w (by simpa using hw)
      rw [zJE rd]
      exact SeqAt.eqAt_reads d e _ s w v cs bs rd rb (zFL hds.can d hd) hx.can (by lia)
    · rw [show its.toArray.any (eqC s.heap e) = its.any (eqC s.heap e) by simp, zBV ra]
      exact q
theorem zO5 (hu : X.A.units + 64 < cLine) : OpR X (compareOp .NotIn) (zXP X.K true) := by
  intro pins s σ H x y v u Q I rx ry h
  obtain ⟨p, xs, ds, e, rfl, hq, hds, hx, hm, q⟩ := h
  cases ry
  obtain ⟨bs, rb⟩ := hx.reads I rx
  have hu1 : X.A.in1.units + 61 < cLine := by have : X.A.in1.units ≤ X.A.units + 1 := by first | exact Nat.le_refl _ | simp [Around.in1]
                                              lia
  rcases hq with hq | hq
  · obtain ⟨its, r, pl, hz⟩ := I.list hq
    obtain ⟨as, ra⟩ := hds.reads I r
    refine SeqAt.notIn_listAt (eqC s.heap e) pl.isList (fun w hw => ?_) ⟨.bl _, H, I, rfl, ?_⟩
    · obtain ⟨d, hd, cs, rd⟩ := zBU ra w (by simpa using hw)
      rw [zJE rd]
      exact SeqAt.eqAt_reads d e _ s w v cs bs rd rb (zFL hds.can d hd) hx.can (by lia)
    · rw [show its.toArray.any (eqC s.heap e) = its.any (eqC s.heap e) by simp, zBV ra]
      exact q
  · obtain ⟨its, r, pl, hz⟩ := I.tuple hq
    obtain ⟨as, ra⟩ := hds.reads I r
    refine SeqAt.notIn_tupleAt (eqC s.heap e) pl (fun w hw => ?_) ⟨.bl _, H, I, rfl, ?_⟩
    · obtain ⟨d, hd, cs, rd⟩ := zBU ra w (by simpa using hw)
      rw [zJE rd]
      exact SeqAt.eqAt_reads d e _ s w v cs bs rd rb (zFL hds.can d hd) hx.can (by lia)
    · rw [show its.toArray.any (eqC s.heap e) = its.any (eqC s.heap e) by simp, zBV ra]
      exact q
theorem DVs.ints{K:PySem.W.Frag}{H:Hp}:∀ns:List Int,DVs K H (ns.map V.int) (ns.map PyData.int)
 |[]=>.nil
 |n::ns=>.cons (.int n) (DVs.ints ns)
theorem zHP(x:Int):∀ns:List Int,((ns.map PyData.int).any λd=>PyData.eqv d (.int x))=decide (x∈ns)
 |[]=>rfl
 |n::ns=>by
  rw[List.map_cons,List.any_cons,zHP x ns,PyData.eqv]
  by_cases h:n=x
  ·subst h;simp
  ·have h':¬x=n:=λz=>h z.symm
   simp[h,h']
end
def Gr(H H':Hp):Prop:=∀b u,H b=some u->H' b=some u
theorem Gr.trans{H H1 H2:Hp}(g:Gr H H1)(g':Gr H1 H2):Gr H H2:=λb u e=>g' b u (g b u e)
theorem Gr.new{H:Hp}{p:Addr}{o:HO}(hp:H p=none):Gr H (upd H p o):=λb u e=>by rw[zAE (zAS e hp)];exact e
theorem SqT.gr{K:PySem.W.Frag}{H H':Hp}{a:Addr}{xs:List V}(h:SqT K H a xs)(g:Gr H H'):SqT K H' a xs:=by
 rcases h with h|h
 ·rcases h with h|⟨o,h⟩
  ·exact .inl (.inl (g _ _ h))
  ·exact .inl (.inr ⟨o,g _ _ h⟩)
 ·exact .inr h
section
variable{prog:Program}{w:World}{A:Around}{E:Value->Shared->Prop}{s:Shared}
theorem zDU{t sl:Addr}{items:Array Value}{vl vu:Value}{lo hi:Option Int}{Q:Value->Shared->Prop}(ht:IsTup s.heap t items)(hs:s.heap.IsSliceOf sl vl vu .none)(pl:IsPart vl lo)(pu:IsPart vu hi)
  (hw:HT.sIx items.size 0 lo=0/\HT.sIx items.size items.size hi=items.size) (h:Q (.ref t) s):wpAny (model prog w) A (getItem (.ref t) (.ref sl)) Q E s:=by
 obtain⟨os,hos,hcs,hds⟩:=id hs
 have hTs:s.TypeIs (.ref sl) "slice":=⟨os,hos,hcs⟩
 unfold getItem
 try with_reducible refine wpAny_holding ?_
 first|refine wpAny_bind (wpAny_pure ?_)|skip
 refine wpAny_bind (wpAny_sequenceKey ht.typeIs (by decide) ?_)
 refine wpAny_bind (wpAny_callSpecial?_slot (name:=Str.ofString "__getitem__") ht.typeIs PyProof.Rows.slot_tuple_getitem
  (wpAny_call_entry PyProof.Rows.slot_tuple_getitem ht.typeIs entry_tuple_getitem ?_ (args_tuple_getitem _ _)))
 show wpAny _ _ (Builtin.Tuple.tupleItemsOf (.ref t) >>= _) _ _ s
 refine wpAny_bind (tupleItemsOf_ ht ?_)
 refine wpAny_bind (wpAny_typeOf hTs ?_)
 rw[if_pos (by decide)]
 refine wpAny_bind (HT.sliceApplied_gen hs pl pu ?_)
 rw[hw.1,hw.2]
 have e:(((0:Nat):Int)==0&&(1:Int)==1&&(items.size-0)==items.size)=true:=by simp
 show wpAny _ _ (if(((0:Nat):Int)==0&&(1:Int)==1&&(items.size-0)==items.size)=true then _ else _) _ _ s
 rw[if_pos e]
 show wpAny _ _ (Builtin.Tuple.tupleIsExact (.ref t) >>= _) _ _ s
 unfold Builtin.Tuple.tupleIsExact
 refine wpAny_bind (wpAny_bind (wpAny_typeOf ht.typeIs (wpAny_pure ?_)))
 show wpAny _ _ (if(Value.type "tuple"==Value.type "tuple")=true then _ else _) _ _ s
 rw[if_pos (by decide)]
 exact wpAny_bind (wpAny_rule (wpAny_pure ⟨_,rfl,wpAny_pure h⟩))
theorem zVK{t b:Addr}{vs ws:List Value}{Q:Value->Shared->Prop}(ht:IsTup s.heap t vs.toArray)(hb:IsTup s.heap b ws.toArray)
  (h0:vs=[]->Q (.ref b) s) (h1:vs≠[]->ws=[]->Q (.ref t) s) (h2:vs≠[]->ws≠[]->Q (.ref s.heap.objs.size) { s with heap:=s.heap.push { cls:=.type "tuple",data:=.seq (vs++ws).toArray } })
  (hsz:vs.length+ws.length<=sizeLine):wpAny (model prog w) A (binaryOp .Add (.ref t) (.ref b)) Q E s:=by
 by_cases hv:vs=[]
 ·obtain⟨⟨cls,dd,data,sl⟩,ho,hc,n,hd⟩:=id ht
  obtain⟨⟨cls2,dd2,data2,sl2⟩,ho2,hc2,n2,hd2⟩:=id hb
  simp only at hc hd hc2 hd2
  subst hc hd hc2 hd2
  exact concat_meets ⟨_,ho,rfl⟩ ⟨_,ho2,rfl⟩ noFill_tuple_add seq_tuple_add PySem.F.slot_tuple_add PySem.F.entry_tuple_add (PySem.F.args_tuple_add_2 _ _)
   (tuple_addW0 t b vs.toArray ws.toArray n n2 dd dd2 sl sl2 (by simp[hv])) ⟨ho,ho2,h0 hv⟩
 ·exact HT.cat_tup ht hb hv (h1 hv) (h2 hv) hsz
end
section
variable{X:Cx}{e:Expr}{te:TE}{pos p2:Pos}
theorem zO6{xs:List V}{lo hi:Option Int}(h:HT.sIx xs.length 0 lo=0/\HT.sIx xs.length xs.length hi=xs.length):zL7 xs lo hi=xs:=by
 unfold zL7
 rw[h.1,h.2,List.drop_zero,Nat.sub_zero,List.take_length]
end
section
variable{prog:Program}{w:World}{A:Around}{E:Value->Shared->Prop}{s:Shared}
end
section
variable(K:PySem.W.Frag)
end
section
variable{X:Cx}
theorem zR2{pins:List (Addr×Obj)}{σ:St}{H:Hp}{s:Shared}{A:Around}{E:Value->Shared->Prop}{Q:Value->Shared->Prop}{a:Addr}{xs:List V}{c:Value}{b:Bool}(I:Inv X pins σ H s)(ha:SqT X.K H a xs)
  (e:PySem.W.kitOne X.K (.type "tuple") c=some b) (h:∀tk,Q (.bool b) { s with toks:=tk }):wpAny (model X.prog X.w) A (call (.builtin "isinstance") [.ref a,c]) Q E s:=by
 obtain⟨its,r,p,_⟩:=I.tuple ha
 obtain⟨o,h1,h2,_⟩:=p
 exact PySem.W.kia_one PySem.W.kitx_tuple I.kIn ⟨o,h1,h2⟩ e (λz=>nomatch z) h
end
section
variable{prog:Program}{w:World}{A:Around}{E:Value->Shared->Prop}{s:Shared}
abbrev zQ3(h:Heap)(n:Addr)(f0:Value)(f1:Bool)(i:Int)(old:Value):Prop :=
 h.get? (n+1)=some { cls:=.type "enumerate",dict:=none,data:=.fields #[f0,.bool f1,.ref n,rawInt i,.none,old],slots:=#[] }
theorem zO7{n:Addr}{f0 old:Value}{f1:Bool}{i:Int}{Q:Bool->Shared->Prop}(hz:zQ3 s.heap n f0 f1 i old)(hf:F0 f0)
  (h:∀b h' f1,zQ3 h' n f0 f1 i old->Heap.SameBut (n+1) s.heap h'->Q b { s with heap:=h' }):wpAny (model prog w) A (Builtin.SmallTypes.ownedTupleIsFree (.ref (n+1))) Q E s:=by
 unfold Builtin.SmallTypes.ownedTupleIsFree
 rcases hf with rfl|⟨T,rfl⟩
 ·exact wpAny_bind (wpAny_field hz rfl (x:=.none) rfl (wpAny_pure (h true s.heap f1 hz (zHO _ _))))
 ·refine wpAny_bind (wpAny_field hz rfl (x:=rawInt T) rfl ?_)
  show wpAny _ _ (loadIfAlive (T:Int).toNat >>= _) _ _ _
  refine wpAny_bind (zO3 ?_)
  cases e:(s.heap.get? (T:Int).toNat).isNone with
  |true=>exact wpAny_pure (h true s.heap f1 hz (zHO _ _))
  |false =>
   simp only[Bool.false_eq_true,if_false]
   refine wpAny_bind (wpAny_field hz rfl (x:=.bool f1) rfl ?_)
   cases f1 with
   |true=>exact wpAny_pure (h false s.heap true hz (zHO _ _))
   |false =>
    show wpAny _ _ (setField (.ref (n+1)) 1 (.bool true) >>= _) _ _ _
    exact wpAny_bind (wpAny_setField_rec hz (by simp) λh' hz' hs'=>wpAny_pure (h false h' true hz' hs'))
end
theorem lt2{n c S:Nat}(h:c∈[n,n+1])(hlt:n+1<S):c<S:=by
 simp only[List.mem_cons,List.not_mem_nil,or_false] at h
 lia
theorem ge2{n c:Nat}(h:c∈[n,n+1]):n<=c:=by
 simp only[List.mem_cons,List.not_mem_nil,or_false] at h
 lia
section
variable{X:Cx}{tg:Expr}
end
section
variable{prog:Program}{w:World}{A:Around}{E:Value->Shared->Prop}{s:Shared}
end
section
variable{X:Cx}{pins:List (Addr×Obj)}{σ:St}{H:Hp}{s:Shared}
variable{e:Expr}{te:TE}{pos p2:Pos}
end
def PairsAt(K:PySem.W.Frag)(H:Hp)(zs:List V)(ps:List (Int×Int)):Prop:=Paired (λ(z:V) (p:Int×Int)=>∃q,z=.ref q/\SqT K H q [.int p.1,.int p.2]) zs ps
theorem PairsAt.gr{K:PySem.W.Frag}{H H':Hp}{zs:List V}{ps:List (Int×Int)}(h:PairsAt K H zs ps)(g:Gr H H'):PairsAt K H' zs ps:=Paired.mapP h λ_ _ ⟨q,e,k⟩=>⟨q,e,k.gr g⟩
section
variable{prog:Program}{w:World}{A:Around}{E:Value->Shared->Prop}{s:Shared}
end
section
variable{X:Cx}{tg:Expr}
end
section
variable{prog:Program}{w:World}{A:Around}{s:Shared}{R:Result->Shared->Prop}{a b x:Value}{T I S:Addr}
end
section
variable{X:Cx}
end
section
variable{prog:Program}{w:World}{A:Around}{E:Value->Shared->Prop}{s:Shared}
end
theorem zO8{l1 l2:List V}(pp:l1.Perm l2):∀ns:List Int,l2=ns.map V.int->∃ms:List Int,l1=ms.map V.int/\ms.Perm ns:=by
 induction pp with
 |nil=>intro ns e;cases ns with|nil=>exact⟨[],rfl,List.Perm.refl _⟩|cons _ _=>cases e
 |cons a _ ih =>
  intro ns e
  cases ns with
  |nil=>cases e
  |cons b ns =>
   rw[List.map_cons] at e
   injection e with e1 e2
   obtain⟨ms,h1,h2⟩:=ih ns e2
   exact⟨b::ms,by rw[List.map_cons,e1,h1],h2.cons b⟩
 |swap a b l =>
  intro ns e
  match ns,e with
  |c::d::ns,e =>
   rw[List.map_cons,List.map_cons] at e
   injection e with e1 e2
   injection e2 with e2 e3
   exact⟨d::c::ns,by rw[List.map_cons,List.map_cons,e1,e2,e3],List.Perm.swap _ _ _⟩
 |trans _ _ ih1 ih2 =>
  intro ns e
  obtain⟨ms,h1,h2⟩:=ih2 ns e
  obtain⟨ks,h3,h4⟩:=ih1 ms h1
  exact⟨ks,h3,h4.trans h2⟩
theorem zDV{P:Program}{w:World}{H:Hp}{h:Heap}{a:Addr}{kvs:List (Key×V)}(x:ObjOk P w H h a (.dK kvs)):∃es ep,RawD h a es ep/\es.size=kvs.length/\kvs.length<=sizeLine /\
  ∀(i:Nat) (hi:i<es.size),∃k:Key,(kvs.map (·.1))[i]?=some k/\RelV (kV k) es[i].key:=by
 obtain⟨z,y,vs,r,o,es,ep,h1,h2,h3,h4,h5,h6⟩:=x
 have hl:es.size=vs.length:=by rw[<-h5.length];simp
 have hl2:kvs.length=vs.length:=r.length
 refine⟨es,ep,⟨⟨o,h1,h2,h3⟩,y⟩,by lia,z,λi hi=>?_⟩
 have hi':i<vs.length:=by lia
 obtain⟨e1,_⟩:=h5.get? (i:=i) (e:=es[i]) (k:=vs[i].1) (v:=vs[i].2) (by simp[hi]) (by simp[hi'])
 refine⟨vs[i].1,by rw[r.keys];simp[hi'],?_⟩
 rw[zGH] at e1
 rcases zAU e1 with⟨j,t,z1,z2⟩|⟨y,t,z1,z2⟩
 ·rw[z1,z2];exact⟨t,rfl⟩
 ·rw[z1,z2];exact⟨t,rfl⟩
section
variable{X:Cx}
noncomputable def ItK(d:Addr)(o:Obj)(kvs:List (Key×V)):It :=
 ⟨λi H=>i<kvs.length/\H d=some (.frz o (.dK kvs)),λi H x H'=>H'=H/\∃k,x=kV k/\(kvs.map (·.1))[i]?=some k,λi H=>kvs.length<=i/\H d=some (.frz o (.dK kvs))⟩
theorem zDN{P:Program}{w:World}{K:PySem.W.Frag}{tg:Expr}(d it:Addr)(o:Obj)(kvs:List (Key×V))(es:Array DictEntry)(ep:Nat)(hd:o.data=.dict es ep)(hz:es.size=kvs.length) :
  Turn P w K tg (ItK d o kvs) [it] it (λi h=>h.IsKeyIter it d i es.size ep) where
 mem:=by simp
 obj:=λi h st b hb=>by
  have e:b=it:=by simpa using hb
  subst e
  obtain⟨o,e,c,d⟩:=st
  exact⟨o,e,λv z=>by rw[d] at z;cases z⟩
 keep:=λi h h' st k=>let ⟨o,e,r⟩:=st;⟨o,k it (by simp) o e,r⟩
 item:=by
  intro X hP hw hK hc i pins s σ H E I hf st hg
  subst hP hw hK
  obtain⟨hi,hk⟩:=hg
  obtain⟨ho,hx⟩:=I.hok d _ hk
  obtain⟨es',ep',rw',e1,e2,e3⟩:=zDV hx
  obtain⟨o',q1,q2,q3⟩:=rw'.ex
  rw[ho] at q1;cases q1
  rw[hd] at q3;injection q3 with q4 q5
  subst q4;subst q5
  obtain⟨f0,f1,f2,f3,f4,f5⟩:=hf it (by simp)
  refine zMA st rw' (by lia) λh' st' sb=>?_
  obtain⟨k,p2,p3⟩:=e3 i (by lia)
  have I1:Inv X pins σ H { s with heap:=h' }:=I.turned (t':=s.toks) (λb ob hb e=>(sb.2 b hb).trans e) f0 f1 f3 f4 f5
  obtain⟨oi,e,c,dd⟩:=id st'
  refine⟨_,rfl,zOB (s:={ s with heap:=h' }) e c dd (by decide) ⟨kV k,H,I1,p3,⟨rfl,k,rfl,p2⟩,st',λb hb=>(hf b hb).1⟩⟩
 done:=by
  intro X hP hw hK hc i pins s σ H E I hf st hg
  subst hP hw hK
  obtain⟨hi,hk⟩:=hg
  obtain⟨ho,hx⟩:=I.hok d _ hk
  obtain⟨es',ep',rw',e1,e2,e3⟩:=zDV hx
  obtain⟨o',q1,q2,q3⟩:=rw'.ex
  rw[ho] at q1;cases q1
  rw[hd] at q3;injection q3 with q4 q5
  subst q4;subst q5
  obtain⟨f0,f1,f2,f3,f4,f5⟩:=hf it (by simp)
  exact zO2 (I.ok.hd hc) st rw' (by lia) λh' eb=>⟨rfl,I.turned (t':=s.toks) (λb ob hb e=>eb b ob hb e) f0 f1 f3 f4 f5⟩
 self:=λ_ _ _ _ _ st h=>wpAny_pyIter_keyiter st h
theorem Inv.freezeK{pins:List (Addr×Obj)}{σ:St}{H:Hp}{s:Shared}{a:Addr}{kvs:List (Key×V)}(I:Inv X pins σ H s)(ha:H a=some (.dK kvs)) :
  ∃o,s.heap.get? a=some o/\Inv X pins σ (upd H a (.frz o (.dK kvs))) s:=by
 have x:=I.hok a _ ha
 obtain⟨es,ep,⟨⟨o,h1,h2,h3⟩,_⟩,_⟩:=zDV x
 have kt:∀b ys,H b=some (.tup ys)->b≠a:=λb ys e z=>by rw[z,ha] at e;cases e
 have ko:∀b y,H b=some (.own y)->b≠a:=λb y e z=>by rw[z,ha] at e;cases e
 have kf:∀b ob u,H b=some (.frz ob u)->b≠a:=λb ob u e z=>by rw[z,ha] at e;cases e
 have kb:∀b t ps,H b=some (.tbl t ps)->b≠a:=λb t ps e z=>by rw[z,ha] at e;cases e
 have kn:∀b,H b=none->b≠a:=λb e z=>by rw[z,ha] at e;cases e
 refine⟨o,h1,I.un (t':=s.toks) (h':=s.heap) ⟨λb ob e _ _ _=>e,λb ob e _ _ _=>⟨ob.slots,e⟩,λb ob e n _=>by rw[zAE (kn b n)];exact n,λb ob e _=>⟨ob,e⟩,λb ys e=>by rw[zAE (kt b ys e)];exact e,λb ob u e=>by rw[zAE (kf b ob u e)];exact e,λb t ps e=>⟨#[],by rw[zAE (kb b t ps e),e];simp⟩⟩ λb u e=>?_⟩
 by_cases hb:b=a
 ·subst hb
  rw[zAD] at e
  cases e
  exact⟨h1,x.stay (λc v _ q=>q) (λc q=>by rw[zAE (ko c _ q)];exact q) (λc ys q=>by rw[zAE (kt c ys q)];exact q) λc ob x q=>by rw[zAE (kf c ob _ q)];exact q⟩
 ·rw[zAE hb] at e
  exact(I.hok b u e).stay (λc v _ q=>q) (λc q=>by rw[zAE (ko c _ q)];exact q) (λc ys q=>by rw[zAE (kt c ys q)];exact q) λc ob x q=>by rw[zAE (kf c ob _ q)];exact q
def zT2(tl:TE):TI:=λσ H R=>tl σ H λx H1=>∃a kvs,x=.ref a/\H1 a=some (.dK kvs)/\∀o,R (ItK a o kvs) (upd H1 a (.frz o (.dK kvs)))
theorem zR3{tg l:Expr}{tl:TE}(hl:PE X l tl):PI X tg l (zT2 tl):=by
 intro pins s σ H R I h
 refine thn (hl pins s σ H _ I h) λv s1 ⟨x,H1,I1,r1,a,kvs,e,ha,q⟩=>?_
 subst e
 cases r1
 obtain⟨o,ho,I2⟩:=I1.freezeK ha
 obtain⟨es,ep,rw',e1,e2,e3⟩:=zDV (I1.hok a _ ha)
 obtain⟨o',q1,q2,q3⟩:=id rw'.ex
 rw[ho] at q1;cases q1
 refine zDM rw' λh' k ki=>?_
 refine⟨s1.heap.objs.size,[s1.heap.objs.size],_,_,_,rfl,I2.kept (t':=s1.toks) k,zDN a _ o kvs es ep q3 e1,ki,λb hb=>?_,q o⟩
 have e:b=s1.heap.objs.size:=by simpa using hb
 subst e
 exact I2.fpOk (Nat.le_refl _) (I2.hok.fresh (Nat.le_refl _))
end
end L2
namespace TS
open PySem PyProof.Rows
section
variable{prog:Program}{w:World}{A:Around}{E:Value->Shared->Prop}{s:Shared}{a₀:Array Keyed}{kd:SortKind}{L:Keyed->Keyed->Bool}
def zJF(prog:Program)(w:World)(A:Around)(s:Shared)(kd:SortKind)(a₀:Array Keyed)(L:Keyed->Keyed->Bool):Prop :=
 ∀x y:Keyed,x∈a₀->y∈a₀->∀(Q:Bool->Shared->Prop) (E:Value->Shared->Prop),Q (L x y) s->wpAny (model prog w) A (keyLt' kd x.1 y.1) Q E s
theorem zHQ{st:SortSt}{x y:Keyed}{Q:Option Bool->SortSt->Prop}(hA:zJF prog w A s kd a₀ L)(hk:kindOf st=kd)(hx:x∈a₀)(hy:y∈a₀)(h:Q (some (L x y)) st) :
  wpS (model prog w) A E s (lt' x y) Q st:=by
 rw[lt'_eq]
 refine wpS_bind (wpS_get ?_)
 rw[hk]
 refine wpS_bind (wpS_lift (wpAny_attempt (hA x y hx hy _ _ ⟨rfl,?_⟩)))
 exact wpS_pure h
def Cut(B:Nat->Bool)(n k:Nat):Prop:=k<=n/\(∀i<k,B i=true)/\∀i,k<=i->i<n->B i=false
theorem via{α β γ:Type}{T:β->γ->StateT SortSt Sem α}{M:Model}{A:Around}{E:Value->Shared->Prop}{s:Shared}{Q:α->SortSt->Prop}{st:SortSt}{goal:Prop}(P:β->γ->Prop)(h1:(∀x y,P x y->wpS M A E s (T x y) Q st)->goal)(h2:∀x y,P x y->wpS M A E s (T x y) Q st):goal:=h1 h2
theorem zGQ{st:SortSt}{left:Bool}{key:Keyed}{arr:Array Keyed}{base n hint:Nat}{Q:Option Nat->SortSt->Prop}{B:Nat->Bool}(hA:zJF prog w A s kd a₀ L)(hk:kindOf st=kd)(hkey:key∈a₀)(harr:∀x∈arr,x∈a₀)
  (hb:base+n<=arr.size) (hh:hint<n) (hB:∀i (hi:base+i<arr.size),B i=if left then L arr[base+i] key else !L key arr[base+i]) (mono:∀i j,i<=j->j<n->B j=true->B i=true)
  (h:∀k,Cut B n k->Q (some k) st):wpS (model prog w) A E s (zFK left key arr base n hint) Q st:=by
 have hm:∀(i:Nat) (hi:base+i<arr.size),arr[base+i]∈a₀:=λi hi=>harr _ (Array.getElem_mem hi)
 have anti:∀i j,i<=j->j<n->B i=false->B j=false:=λi j hij hj hi=>by
  cases e:B j with
  |false=>rfl
  |true=>rw[mono i j hij hj e] at hi;cases hi
 have bey:∀(i:Nat) (hi:i<n) {Q:Option Bool->SortSt->Prop},Q (some (B i)) st->wpS (model prog w) A E s (do let x <-elem' arr (base+i);if left=true then lt' x key else return (<-lt' key x).map (!·)) Q st:=λi hi {Q} q=>by
  have hi':base+i<arr.size:=by omega
  have eB:=hB i hi'
  refine wpS_bind (zDK hi' (zAM (λhl=>zHQ hA hk (hm _ hi') hkey ?_) λhl=>wpS_bind (zHQ hA hk hkey (hm _ hi') (wpS_pure ?_))))
  ·rw[if_pos hl] at eB;rw[<-eB];exact q
  ·rw[if_neg hl] at eB;show Q (some (!_)) st;rw[<-eB];exact q
 clear hB
 refine via (M:=model prog w) (A:=A) (E:=E) (s:=s) (λlo hi:Nat=>lo<=hi/\hi<=n/\(∀i<lo,B i=true)/\∀i,hi<=i->i<n->B i=false) (λK=>by
  refine wpS_bind (bey hint hh ?_)
  cases e:B hint with
  |true =>
   refine wpS_bind (wpS_mono (wpS_forRange (I:=λx c st'=>st'=st/\∃l o,c=(none,l,o)/\B (hint+l)=true/\hint+l<n/\l<o/\x+1<=o)
    (Q:=λc st'=>st'=st/\∃l o,c=(none,l,o)/\B (hint+l)=true/\hint+l<n/\l<o/\(n-hint<=o\/hint+o<n/\B (hint+o)=false)) ?step (λc st' ⟨e,l,o,e1,e2,e3,e4,e5⟩=>⟨e,l,o,e1,e2,e3,e4,.inl (by omega)⟩) ⟨rfl,0,1,rfl,e,hh,by omega,by omega⟩) ?post)
   case step =>
    rintro x c st' _ _ ⟨rfl,l,o,rfl,h1,h2,h3,h4⟩
    try dsimp only
    refine zAM (λq=>wpS_pure ⟨rfl,l,o,rfl,h1,h2,h3,.inl q⟩) (λq=>?_)
    refine wpS_bind (bey (hint+o) (by omega) ?_)
    cases e:B (hint+o) with
    |true=>exact wpS_pure ⟨rfl,o,2 * o+1,rfl,e,by omega,by omega,by omega⟩
    |false=>exact wpS_pure ⟨rfl,l,o,rfl,h1,h2,h3,.inr ⟨by omega,e⟩⟩
   case post =>
    rintro c st' ⟨rfl,l,o,rfl,h1,h2,h3,h4⟩
    have hP:hint+l+1<=hint+min o (n-hint)/\hint+min o (n-hint)<=n/\(∀i<hint+l+1,B i=true)/\∀i,hint+min o (n-hint)<=i->i<n->B i=false:=⟨by omega,by omega,λi hi=>mono i (hint+l) (by omega) h2 h1,λi hi hn=>by
     rcases h4 with h4|⟨h4,h5⟩
     ·omega
     ·exact anti (hint+o) i (by omega) hn h5⟩
    revert hP
    dsimp only
    generalize hint+l+1=lo',hint+min o (n-hint)=hi'
    exact λhP=>K lo' hi' hP
  |false =>
   refine wpS_bind (wpS_mono (wpS_forRange (I:=λx c st'=>st'=st/\∃l o,c=(none,l,o)/\B (hint-l)=false/\l<=hint/\l<o/\x+1<=o)
    (Q:=λc st'=>st'=st/\∃l o,c=(none,l,o)/\B (hint-l)=false/\l<=hint/\l<o/\(hint+1<=o\/o<=hint/\B (hint-o)=true)) ?step (λc st' ⟨e,l,o,e1,e2,e3,e4,e5⟩=>⟨e,l,o,e1,e2,e3,e4,.inl (by omega)⟩) ⟨rfl,0,1,rfl,e,by omega,by omega,by omega⟩) ?post)
   case step =>
    rintro x c st' _ _ ⟨rfl,l,o,rfl,h1,h2,h3,h4⟩
    try dsimp only
    refine zAM (λq=>wpS_pure ⟨rfl,l,o,rfl,h1,h2,h3,.inl q⟩) (λq=>?_)
    refine wpS_bind (bey (hint-o) (by omega) ?_)
    cases e:B (hint-o) with
    |true=>exact wpS_pure ⟨rfl,l,o,rfl,h1,h2,h3,.inr ⟨by omega,e⟩⟩
    |false=>exact wpS_pure ⟨rfl,o,2 * o+1,rfl,e,by omega,by omega,by omega⟩
   case post =>
    rintro c st' ⟨rfl,l,o,rfl,h1,h2,h3,h4⟩
    exact K (hint+1-min o (hint+1)) (hint-l) ⟨by omega,by omega,λi hi=>by
     rcases h4 with h4|⟨h4,h5⟩
     ·omega
     ·exact mono i (hint-o) (by omega) (by omega) h5,λi hi hn=>anti (hint-l) i hi hn h1⟩) ?_
 rintro lo hi ⟨p1,p2,p3,p4⟩
 refine wpS_bind (wpS_mono (wpS_forRange (I:=λx c st2=>st2=st/\∃l r,c=(none,l,r)/\l<=r/\r<=n/\(∀i<l,B i=true)/\(∀i,r<=i->i<n->B i=false)/\r-l+x<=n)
  (Q:=λc st2=>st2=st/\∃l r,c=(none,l,r)/\Cut B n r) ?st2 (λc st2 ⟨e,l,r,e1,e2,e3,e4,e5,e6⟩=>⟨e,l,r,e1,e3,λi hi=>e4 i (by omega),e5⟩) ⟨rfl,lo,hi,rfl,p1,p2,p3,p4,by omega⟩) ?po2)
 case po2 =>
  rintro c st2 ⟨rfl,l,r,rfl,hr⟩
  exact wpS_pure (h r hr)
 case st2 =>
  rintro x c st2 _ _ ⟨rfl,l,r,rfl,q1,q2,q3,q4,q5⟩
  try dsimp only
  refine zAM (λq=>wpS_pure ⟨rfl,l,r,rfl,q2,λi hi=>q3 i (by omega),q4⟩) (λq=>?_)
  refine wpS_bind (bey (l+(r-l) / 2) (by omega) ?_)
  cases e:B (l+(r-l) / 2) with
  |true=>exact wpS_pure ⟨rfl,l+(r-l) / 2+1,r,rfl,by omega,q2,λi hi=>mono i (l+(r-l) / 2) (by omega) (by omega) e,q4,by omega⟩
  |false=>exact wpS_pure ⟨rfl,l,l+(r-l) / 2,rfl,by omega,by omega,q3,λi hi hn=>anti (l+(r-l) / 2) i hi hn e,by omega⟩
end
structure Ord(L:Keyed->Keyed->Bool)(a₀:Array Keyed):Prop where
 asym:∀x y,x∈a₀->y∈a₀->L x y=true->L y x=false
 trans:∀x y z,x∈a₀->y∈a₀->z∈a₀->L y x=false->L z y=false->L z x=false
def SA(L:Keyed->Keyed->Bool)(a:Array Keyed):Prop:=∀(i j:Nat) (hj:j<a.size) (hij:i<j),L a[j] (a[i]'(by lia))=false
theorem Ord.refl{L:Keyed->Keyed->Bool}{a₀:Array Keyed}(O:Ord L a₀){x:Keyed}(hx:x∈a₀):L x x=false:=by
 cases e:L x x with
 |false=>rfl
 |true=>rw[O.asym x x hx hx e] at e;cases e
theorem SA.le{L:Keyed->Keyed->Bool}{a₀ a:Array Keyed}(O:Ord L a₀)(ha:∀x∈a,x∈a₀)(s:SA L a){i j:Nat}(hj:j<a.size)(hij:i<=j):L a[j] (a[i]'(by lia))=false:=by
 rcases Nat.lt_or_eq_of_le hij with h|h
 ·exact s i j hj h
 ·subst h;exact O.refl (ha _ (Array.getElem_mem _))
section
variable{prog:Program}{w:World}{A:Around}{E:Value->Shared->Prop}{s:Shared}{a₀:Array Keyed}{kd:SortKind}{L:Keyed->Keyed->Bool}
theorem zJG{st:SortSt}{key:Keyed}{arr:Array Keyed}{base n hint:Nat}{Q:Option Nat->SortSt->Prop}(hA:zJF prog w A s kd a₀ L)(O:Ord L a₀)(hk:kindOf st=kd)(hkey:key∈a₀)(harr:∀x∈arr,x∈a₀)
  (hb:base+n<=arr.size) (hh:hint<n) (sl:∀(i j:Nat) (hj:base+j<arr.size) (hij:i<j),j<n->L arr[base+j] (arr[base+i]'(by lia))=false)
  (h:∀k,k<=n->(∀(i:Nat) (hi:base+i<arr.size),i<k->L key arr[base+i]=false)->(∀(i:Nat) (hi:base+i<arr.size),k<=i->i<n->L key arr[base+i]=true)->Q (some k) st):wpS (model prog w) A E s (zFK false key arr base n hint) Q st:=by
 refine zGQ (B:=λi=>if hi:base+i<arr.size then !L key arr[base+i] else false) hA hk hkey harr hb hh (λi hi=>by simp[hi]) (λi j hij hj e=>?_) λk ⟨c1,c2,c3⟩=>h k c1 (λi hi hik=>?_) (λi hi hki hin=>?_)
 ·rcases Nat.lt_or_eq_of_le hij with h'|h'
  ·have hj':base+j<arr.size:=by lia
   have hi':base+i<arr.size:=by lia
   rw[dif_pos hj'] at e
   show(if hi:base+i<arr.size then !L key arr[base+i] else false)=true
   rw[dif_pos hi']
   have e':L key arr[base+j]=false:=by simpa using e
   rw[O.trans _ _ _ (harr _ (Array.getElem_mem hi')) (harr _ (Array.getElem_mem hj')) hkey (sl i j hj' h' hj) e']
   rfl
  ·subst h';exact e
 ·have:=c2 i hik
  simpa[hi] using this
 ·have:=c3 i hki hin
  simpa[hi] using this
theorem zJH{st:SortSt}{key:Keyed}{arr:Array Keyed}{base n hint:Nat}{Q:Option Nat->SortSt->Prop}(hA:zJF prog w A s kd a₀ L)(O:Ord L a₀)(hk:kindOf st=kd)(hkey:key∈a₀)(harr:∀x∈arr,x∈a₀)
  (hb:base+n<=arr.size) (hh:hint<n) (sl:∀(i j:Nat) (hj:base+j<arr.size) (hij:i<j),j<n->L arr[base+j] (arr[base+i]'(by lia))=false)
  (h:∀k,k<=n->(∀(i:Nat) (hi:base+i<arr.size),i<k->L arr[base+i] key=true)->(∀(i:Nat) (hi:base+i<arr.size),k<=i->i<n->L arr[base+i] key=false)->Q (some k) st):wpS (model prog w) A E s (zFK true key arr base n hint) Q st:=by
 refine zGQ (B:=λi=>if hi:base+i<arr.size then L arr[base+i] key else false) hA hk hkey harr hb hh (λi hi=>by simp[hi]) (λi j hij hj e=>?_) λk ⟨c1,c2,c3⟩=>h k c1 (λi hi hik=>?_) (λi hi hki hin=>?_)
 ·rcases Nat.lt_or_eq_of_le hij with h'|h'
  ·have hj':base+j<arr.size:=by lia
   have hi':base+i<arr.size:=by lia
   rw[dif_pos hj'] at e
   show(if hi:base+i<arr.size then L arr[base+i] key else false)=true
   rw[dif_pos hi']
   cases ei:L arr[base+i] key with
   |true=>rfl
   |false =>
    rw[O.trans _ _ _ hkey (harr _ (Array.getElem_mem hi')) (harr _ (Array.getElem_mem hj')) ei (sl i j hj' h' hj)] at e
    cases e
  ·subst h';exact e
 ·have:=c2 i hik
  simpa[hi] using this
 ·have:=c3 i hki hin
  simpa[hi] using this
end
structure MidO(L:Keyed->Keyed->Bool)(a b out:Array Keyed)(ia ib:Nat):Prop where
 m:Mid a b out ia ib
 so:out.toList.Pairwise λx y=>L y x=false
 oa:∀x∈out,∀(i:Nat) (hi:i<a.size),ia<=i->L a[i] x=false
 ob:∀x∈out,∀(i:Nat) (hi:i<b.size),ib<=i->L b[i] x=false
section
variable{L:Keyed->Keyed->Bool}{a b out:Array Keyed}{ia ib:Nat}
theorem zO9{x:Keyed}(h:out.toList.Pairwise λx y=>L y x=false)(hx:∀y∈out,L x y=false):(out.push x).toList.Pairwise λx y=>L y x=false:=by
 rw[Array.toList_push,List.pairwise_append]
 refine⟨h,List.pairwise_singleton _ _,λy hy z hz=>?_⟩
 rw[List.mem_singleton.mp hz]
 exact hx y (Array.mem_toList_iff.mp hy)
theorem MidO.pushB(m:MidO L a b out ia ib)(sb:SA L b)(h:ib<b.size)(hle:∀(i:Nat) (hi:i<a.size),ia<=i->L a[i] b[ib]=false):MidO L a b (out.push b[ib]) ia (ib+1) where
 m:=m.m.pushB h
 so:=zO9 m.so λy hy=>m.ob y hy ib h (Nat.le_refl _)
 oa:=λx hx i hi hia=>by
  rcases Array.mem_push.mp hx with hx|rfl
  ·exact m.oa x hx i hi hia
  ·exact hle i hi hia
 ob:=λx hx i hi hib=>by
  rcases Array.mem_push.mp hx with hx|rfl
  ·exact m.ob x hx i hi (by lia)
  ·exact sb ib i hi (by lia)
theorem MidO.pushA(m:MidO L a b out ia ib)(sa:SA L a)(h:ia<a.size)(hle:∀(i:Nat) (hi:i<b.size),ib<=i->L b[i] a[ia]=false):MidO L a b (out.push a[ia]) (ia+1) ib where
 m:=m.m.pushA h
 so:=zO9 m.so λy hy=>m.oa y hy ia h (Nat.le_refl _)
 oa:=λx hx i hi hia=>by
  rcases Array.mem_push.mp hx with hx|rfl
  ·exact m.oa x hx i hi (by lia)
  ·exact sa ia i hi (by lia)
 ob:=λx hx i hi hib=>by
  rcases Array.mem_push.mp hx with hx|rfl
  ·exact m.ob x hx i hi hib
  ·exact hle i hi hib
theorem zHR(a:Array Keyed){i k:Nat}(h:i+k<a.size):out++a.extract i (i+(k+1))=(out++a.extract i (i+k)).push a[i+k]:=by
 apply Array.ext'
 rw[Array.toList_append,Array.toList_push,Array.toList_append,Array.toList_extract,Array.toList_extract,List.append_assoc]
 congr 1
 show(a.toList.drop i).take (i+(k+1)-i)=(a.toList.drop i).take (i+k-i)++[a[i+k]]
 rw[show i+(k+1)-i=k+1 by lia,show i+k-i=k by lia,List.take_succ_eq_append_getElem (by simp;lia)]
 simp
theorem MidO.manyA(sa:SA L a):∀{k:Nat},MidO L a b out ia ib->ia+k<=a.size->(∀(i:Nat) (hi:i<a.size),ia<=i->i<ia+k->∀(j:Nat) (hj:j<b.size),ib<=j->L b[j] a[i]=false)->MidO L a b (out++a.extract ia (ia+k)) (ia+k) ib
 |0,m,_,_=>by
  have e:out++a.extract ia (ia+0)=out:=by simp<;>lia
  rw[e];exact m
 |k+1,m,h,hle=>by
  have z:=MidO.manyA sa (k:=k) m (by lia) λi hi h1 h2=>hle i hi h1 (by lia)
  rw[zHR a (show ia+k<a.size by lia)]
  exact z.pushA sa (by lia) λj hj hjb=>hle (ia+k) (by lia) (by lia) (by lia) j hj hjb
theorem MidO.manyB(sb:SA L b):∀{k:Nat},MidO L a b out ia ib->ib+k<=b.size->(∀(i:Nat) (hi:i<b.size),ib<=i->i<ib+k->∀(j:Nat) (hj:j<a.size),ia<=j->L a[j] b[i]=false)->MidO L a b (out++b.extract ib (ib+k)) ia (ib+k)
 |0,m,_,_=>by
  have e:out++b.extract ib (ib+0)=out:=by simp<;>lia
  rw[e];exact m
 |k+1,m,h,hle=>by
  have z:=MidO.manyB sb (k:=k) m (by lia) λi hi h1 h2=>hle i hi h1 (by lia)
  rw[zHR b (show ib+k<b.size by lia)]
  exact z.pushB sb (by lia) λj hj hja=>hle (ib+k) (by lia) (by lia) (by lia) j hj hja
theorem MidO.doneB(m:MidO L a b out ia ib)(sa:SA L a)(h:ib=b.size):(out++a.extract ia a.size++b.extract ib b.size).toList.Pairwise λx y=>L y x=false:=by
 have la:=m.m.la
 have z:=m.manyA sa (k:=a.size-ia) (by lia) λi hi h1 h2 j hj hjb=>by lia
 rw[show ia+(a.size-ia)=a.size by lia] at z
 have e:b.extract ib b.size=#[]:=by rw[h];simp
 rw[e,Array.append_empty]
 exact z.so
theorem MidO.doneA(m:MidO L a b out ia ib)(sb:SA L b)(h:ia=a.size):(out++a.extract ia a.size++b.extract ib b.size).toList.Pairwise λx y=>L y x=false:=by
 have lb:=m.m.lb
 have z:=m.manyB sb (k:=b.size-ib) (by lia) λi hi h1 h2 j hj hja=>by lia
 rw[show ib+(b.size-ib)=b.size by lia] at z
 have e:a.extract ia a.size=#[]:=by rw[h];simp
 rw[e,Array.append_empty]
 exact z.so
theorem MidO.lastA(m:MidO L a b out ia ib)(sa:SA L a)(sb:SA L b)(h:ia+1=a.size)(hl:∀(j:Nat) (hj:j<b.size),L (a[a.size-1]'(by lia)) b[j]=false):(out++b.extract ib b.size++a.extract ia a.size).toList.Pairwise λx y=>L y x=false:=by
 have lb:=m.m.lb
 have z:=m.manyB sb (k:=b.size-ib) (by lia) λi hi h1 h2 j hj hja=>by
  have e:j=a.size-1:=by lia
  subst e
  exact hl i hi
 rw[show ib+(b.size-ib)=b.size by lia] at z
 have z2:=z.manyA sa (k:=1) (by lia) λi hi h1 h2 j hj hjb=>by lia
 rw[h] at z2
 exact z2.so
end
@[elab_as_elim] theorem yAT{K:Prop}{α0 α1 α2 α3 γ:Type}{f:α0->α1->α2->α3->γ}{P:α0->α1->α2->α3->Prop}{G:γ->Prop}{c:γ}(H:K/\∃x0 x1 x2 x3,c=f x0 x1 x2 x3/\P x0 x1 x2 x3)(k:K->∀x0 x1 x2 x3,P x0 x1 x2 x3->G (f x0 x1 x2 x3)):G c:=by
 obtain⟨g,x0,x1,x2,x3,rfl,p⟩:=H
 exact k g x0 x1 x2 x3 p
@[elab_as_elim] theorem zXQ{K:Prop}{α0 α1 α2 α3 α4 γ:Type}{f:α0->α1->α2->α3->α4->γ}{P:α0->α1->α2->α3->α4->Prop}{G:γ->Prop}{c:γ}(H:K/\∃x0 x1 x2 x3 x4,c=f x0 x1 x2 x3 x4/\P x0 x1 x2 x3 x4)(k:K->∀x0 x1 x2 x3 x4,P x0 x1 x2 x3 x4->G (f x0 x1 x2 x3 x4)):G c:=by
 obtain⟨g,x0,x1,x2,x3,x4,rfl,p⟩:=H
 exact k g x0 x1 x2 x3 x4 p
@[elab_as_elim] theorem zXR{K:Prop}{α0 α1 α2 α3 α4 α5 γ:Type}{f:α0->α1->α2->α3->α4->α5->γ}{P:α0->α1->α2->α3->α4->α5->Prop}{G:γ->Prop}{c:γ}(H:K/\∃x0 x1 x2 x3 x4 x5,c=f x0 x1 x2 x3 x4 x5/\P x0 x1 x2 x3 x4 x5)(k:K->∀x0 x1 x2 x3 x4 x5,P x0 x1 x2 x3 x4 x5->G (f x0 x1 x2 x3 x4 x5)):G c:=by
 obtain⟨g,x0,x1,x2,x3,x4,x5,rfl,p⟩:=H
 exact k g x0 x1 x2 x3 x4 x5 p
@[elab_as_elim] theorem yCW{K:Prop}{α0 α1 α2 α3 α4 α5 α6 γ:Type}{f:α0->α1->α2->α3->α4->α5->α6->γ}{P:α0->α1->α2->α3->α4->α5->α6->Prop}{G:γ->Prop}{c:γ}(H:K/\∃x0 x1 x2 x3 x4 x5 x6,c=f x0 x1 x2 x3 x4 x5 x6/\P x0 x1 x2 x3 x4 x5 x6)(k:K->∀x0 x1 x2 x3 x4 x5 x6,P x0 x1 x2 x3 x4 x5 x6->G (f x0 x1 x2 x3 x4 x5 x6)):G c:=by
 obtain⟨g,x0,x1,x2,x3,x4,x5,x6,rfl,p⟩:=H
 exact k g x0 x1 x2 x3 x4 x5 x6 p
section
variable{prog:Program}{w:World}{A:Around}{E:Value->Shared->Prop}{s:Shared}{a₀:Array Keyed}{kd:SortKind}{L:Keyed->Keyed->Bool}{β:Type}{Q:β->SortSt->Prop}{st:SortSt}
theorem zC9{arr:Array Keyed}{i:Nat}{f:Keyed->StateT SortSt Sem β}(hi:i<arr.size)(h:wpS (model prog w) A E s (f arr[i]) Q st):wpS (model prog w) A E s (elem' arr i >>= f) Q st:=wpS_bind (zDK hi h)
theorem yAU{g:Nat}{f:Unit->StateT SortSt Sem β}(h:wpS (model prog w) A E s (f ()) Q (zI7 st g)):wpS (model prog w) A E s (zCZ g >>= f) Q st:=wpS_bind (zVE h)
theorem yCX{x y:Keyed}{f:Option Bool->StateT SortSt Sem β}(hA:zJF prog w A s kd a₀ L)(hk:kindOf st=kd)(hx:x∈a₀)(hy:y∈a₀)(h:wpS (model prog w) A E s (f (some (L x y))) Q st):wpS (model prog w) A E s (lt' x y >>= f) Q st:=wpS_bind (zHQ hA hk hx hy h)
theorem zGR{γ:Type}{a b:Nat}{f:Nat->γ->StateT SortSt Sem (ForInStep γ)}{k:γ->StateT SortSt Sem β}(I:Nat->γ->SortSt->Prop)(R:γ->SortSt->Prop)
  (hstep:∀i c st,a<=i->i<b->I i c st->wpS (model prog w) A E s (f i c) (λr st'=>match r with|.done c'=>R c' st'|.yield c'=>I (i+1) c' st') st)
  (hend:∀c st,I (max a b) c st->R c st) {c:γ} (h:I a c st) (hp:∀c st',R c st'->wpS (model prog w) A E s (k c) Q st'):wpS (model prog w) A E s (forIn [a:b] c f >>= k) Q st:=wpS_bind (wpS_mono (wpS_forRange I hstep hend h) hp)
theorem yCY{key:Keyed}{arr:Array Keyed}{base n hint:Nat}{f:Option Nat->StateT SortSt Sem β}(hA:zJF prog w A s kd a₀ L)(O:Ord L a₀)(hk:kindOf st=kd)(hkey:key∈a₀)(harr:∀x∈arr,x∈a₀)
  (hb:base+n<=arr.size) (hh:hint<n) (sl:∀(i j:Nat) (hj:base+j<arr.size) (hij:i<j),j<n->L arr[base+j] (arr[base+i]'(by lia))=false)
  (h:∀k,k<=n->(∀(i:Nat) (hi:base+i<arr.size),i<k->L key arr[base+i]=false)->(∀(i:Nat) (hi:base+i<arr.size),k<=i->i<n->L key arr[base+i]=true)->wpS (model prog w) A E s (f (some k)) Q st):wpS (model prog w) A E s (zFK false key arr base n hint >>= f) Q st:=wpS_bind (zJG hA O hk hkey harr hb hh sl h)
theorem yCZ{key:Keyed}{arr:Array Keyed}{base n hint:Nat}{f:Option Nat->StateT SortSt Sem β}(hA:zJF prog w A s kd a₀ L)(O:Ord L a₀)(hk:kindOf st=kd)(hkey:key∈a₀)(harr:∀x∈arr,x∈a₀)
  (hb:base+n<=arr.size) (hh:hint<n) (sl:∀(i j:Nat) (hj:base+j<arr.size) (hij:i<j),j<n->L arr[base+j] (arr[base+i]'(by lia))=false)
  (h:∀k,k<=n->(∀(i:Nat) (hi:base+i<arr.size),i<k->L arr[base+i] key=true)->(∀(i:Nat) (hi:base+i<arr.size),k<=i->i<n->L arr[base+i] key=false)->wpS (model prog w) A E s (f (some k)) Q st):wpS (model prog w) A E s (zFK true key arr base n hint >>= f) Q st:=wpS_bind (zJH hA O hk hkey harr hb hh sl h)
end
section
variable{prog:Program}{w:World}{A:Around}{E:Value->Shared->Prop}{s:Shared}{a₀:Array Keyed}{kd:SortKind}{L:Keyed->Keyed->Bool}
theorem yC0{α β:Type}{T:β->StateT SortSt Sem α}{M:Model}{A:Around}{E:Value->Shared->Prop}{s:Shared}{Q:α->SortSt->Prop}{st:SortSt}{goal:Prop}(h1:(∀x,wpS M A E s (T x) Q st)->goal)(h2:∀x,wpS M A E s (T x) Q st):goal:=h1 h2
theorem zK0{st:SortSt}{a b:Array Keyed}{Q:Array Keyed->SortSt->Prop}(hA:zJF prog w A s kd a₀ L)(O:Ord L a₀)(hk:kindOf st=kd)(ha:∀x∈a,x∈a₀)(hb:∀x∈b,x∈a₀)(na:1<=a.size)(nb:1<=b.size)(sa:SA L a)(sb:SA L b)(hf:∀(i:Nat) (hi:i<a.size),L a[i] (b[0]'(by lia))=false)(hl:∀(j:Nat) (hj:j<b.size),L (a[a.size-1]'(by lia)) b[j]=false)
  (h:∀c st',Gal st st'->c.Perm (a++b)->(c.toList.Pairwise λx y=>L y x=false)->Q c st'):wpS (model prog w) A E s (zRX a b) Q st:=by
 refine wpS_bind (wpS_lift (wpAny_rule ⟨rfl,?_⟩))
 dsimp only
 refine zC9 (by lia) ?_
 have m0:MidO L a b #[b[0]] 0 1:=by
  have z:MidO L a b #[] 0 0:=⟨⟨by simp,by lia,by lia,rfl⟩,List.Pairwise.nil,λx hx=>by simp at hx,λx hx=>by simp at hx⟩
  exact z.pushB sb (by lia) λi hi _=>hf i hi
 refine zAM (λe1=>wpS_pure (h _ _ (Gal.refl st) m0.m.done (m0.doneB sa (beq_iff_eq.mp e1)))) (λe1=>?_)
 replace e1:¬1=b.size:=λz=>e1 (beq_iff_eq.mpr z)
 refine zAM (λe2=>wpS_pure (h _ _ (Gal.refl st) m0.m.lastA (m0.lastA sa sb (beq_iff_eq.mp e2) hl))) (λe2=>?_)
 replace e2:¬0+1=a.size:=λz=>e2 (beq_iff_eq.mpr z)
 refine wpS_bind (wpS_get ?_)
 refine zGR
  (I:=λi c st'=>Gal st st'/\∃out ia ib g,c=(none,out,ia,ib,g)/\MidO L a b out ia ib/\ia+1<a.size/\ib<b.size/\i+1<=out.size)
  (R:=λc st'=>Gal st st'/\∃r out ia ib g,c=(some r,out,ia,ib,g)/\(r.Perm (a++b)/\r.toList.Pairwise λx y=>L y x=false)) ?step ?fin ?init ?post
 case init=>exact⟨Gal.refl st,_,_,_,_,rfl,m0,by lia,by lia,by simp⟩
 case post =>
  intro c st' H
  refine zXQ (c:=c) H λg r out ia ib gg p=>?_
  clear H
  exact wpS_pure (h _ _ g p.1 p.2)
 case fin =>
  intro c st' H
  refine yAT (c:=c) H λg out ia ib gg P=>?_
  clear H
  have m:=P.1
  have h1:=P.2.1
  have h2:=P.2.2.1
  have h3:=P.2.2.2
  clear P
  exfalso
  have:=m.m.sz
  lia
 case step =>
  intro i c st' _ hi H
  refine yAT (c:=c) H λg out ia ib gg P=>?_
  clear H
  have m:=P.1
  have h1:=P.2.1
  have h2:=P.2.2.1
  have h3:=P.2.2.2
  clear P
  dsimp only
  have tot:0<a.size+b.size:=by lia
  -- one by one
  refine zGR
   (I:=λ_ c st2=>Gal st st2/\∃out ia ib ac bc,c=(none,out,ia,ib,ac,bc)/\MidO L a b out ia ib/\ia+1<a.size/\ib<b.size/\i+1<=out.size)
   (R:=λc st2=>Gal st st2/\∃r out ia ib ac bc,c=(r,out,ia,ib,ac,bc)/\(match r with
    |some r=>(r.Perm (a++b)/\r.toList.Pairwise λx y=>L y x=false)
    |none=>MidO L a b out ia ib/\ia+1<a.size/\ib<b.size/\i+1<=out.size)) ?step1 ?fin1 ⟨g,_,_,_,_,_,rfl,m,h1,h2,h3⟩ ?post1
  case fin1 =>
   intro c st2 H
   refine zXQ (c:=c) H λg2 out ia ib ac bc P=>?_
   clear H
   have m:=P.1
   have h1:=P.2.1
   have h2:=P.2.2.1
   have h3:=P.2.2.2
   clear P
   exact⟨g2,none,_,_,_,_,_,rfl,m,h1,h2,h3⟩
  case step1 =>
   intro j c st2 _ hj H
   refine zXQ (c:=c) H λg2 out ia ib ac bc P=>?_
   clear H
   have m:=P.1
   have h1:=P.2.1
   have h2:=P.2.2.1
   have h3:=P.2.2.2
   clear P
   dsimp only
   refine zC9 h2 (zC9 (by lia) (yCX hA (g2.kind hk) (hb _ (Array.getElem_mem h2)) (ha _ (Array.getElem_mem _)) ?_))
   have hia:ia<a.size:=by lia
   refine zAM (λew=>?_) (λew=>?_)
   ·refine zC9 h2 ?_
    have m2:=m.pushB sb h2 λi hi hii=>O.trans _ _ _ (hb _ (Array.getElem_mem h2)) (ha _ (Array.getElem_mem hia)) (ha _ (Array.getElem_mem hi)) (O.asym _ _ (hb _ (Array.getElem_mem h2)) (ha _ (Array.getElem_mem hia)) ew) (sa.le O ha hi hii)
    have hs2:i+1<=(out.push b[ib]).size:=by rw[Array.size_push];lia
    refine zAM (λq=>wpS_pure ⟨g2,some _,_,_,_,_,_,rfl,m2.m.done,m2.doneB sa (beq_iff_eq.mp q)⟩) (λq=>?_)
    have h2':ib+1<b.size:=Nat.lt_of_le_of_ne h2 λz=>q (beq_iff_eq.mpr z)
    refine zAM (λ_=>?_) (λ_=>?_)
    ·exact wpS_pure ⟨g2,none,_,_,_,_,_,rfl,m2,h1,h2',hs2⟩
    ·exact wpS_pure ⟨g2,_,_,_,_,_,rfl,m2,h1,h2',hs2⟩
   ·refine zC9 hia ?_
    have m2:=m.pushA sa hia λi hi hii=>O.trans _ _ _ (ha _ (Array.getElem_mem hia)) (hb _ (Array.getElem_mem h2)) (hb _ (Array.getElem_mem hi)) (Bool.eq_false_iff.mpr ew) (sb.le O hb hi hii)
    have hs2:i+1<=(out.push a[ia]).size:=by rw[Array.size_push];lia
    refine zAM (λq=>wpS_pure ⟨g2,some _,_,_,_,_,_,rfl,m2.m.lastA,m2.lastA sa sb (beq_iff_eq.mp q) hl⟩) (λq=>?_)
    have h1':ia+1+1<a.size:=Nat.lt_of_le_of_ne h1 λz=>q (beq_iff_eq.mpr z)
    refine zAM (λ_=>?_) (λ_=>?_)
    ·exact wpS_pure ⟨g2,none,_,_,_,_,_,rfl,m2,h1',h2,hs2⟩
    ·exact wpS_pure ⟨g2,_,_,_,_,_,rfl,m2,h1',h2,hs2⟩
  case post1 =>
   intro c st2 H
   refine zXR (c:=c) H λg2 r out ia ib ac bc hr=>?_
   clear H
   cases r with
   |some r=>exact wpS_pure ⟨g2,r,_,_,_,_,rfl,hr⟩
   |none =>
    have m:=hr.1
    have h1:=hr.2.1
    have h2:=hr.2.2.1
    have h3:=hr.2.2.2
    clear hr
    dsimp only
    refine wpS_bind (wpS_lift (wpAny_rule ⟨rfl,?_⟩))
    refine zGR
     (I:=λj c st3=>Gal st st3/\∃out ia ib gg ac bc,c=(none,out,ia,ib,gg,ac,bc)/\MidO L a b out ia ib/\ia+1<a.size/\ib<b.size/\i+1+(if j=0 then 0 else 1)<=out.size)
     (R:=λc st3=>Gal st st3/\∃r out ia ib gg ac bc,c=(r,out,ia,ib,gg,ac,bc)/\(match r with
      |some r=>(r.Perm (a++b)/\r.toList.Pairwise λx y=>L y x=false)
      |none=>MidO L a b out ia ib/\ia+1<a.size/\ib<b.size/\i+2<=out.size)) ?step2 ?fin2 ⟨g2,_,_,_,_,_,_,rfl,m,h1,h2,by simpa using h3⟩ ?post2
    case fin2 =>
     intro c st3 H
     refine zXR (c:=c) H λg3 out ia ib gg ac bc P=>?_
     clear H
     have m:=P.1
     have h1:=P.2.1
     have h2:=P.2.2.1
     have h3:=P.2.2.2
     clear P
     rw[if_neg (by lia)] at h3
     exact⟨g3,none,_,_,_,_,_,_,rfl,m,h1,h2,h3⟩
    case step2 =>
     intro j c st3 _ hj H
     refine zXR (c:=c) H λg3 out ia ib gg ac bc P=>?_
     clear H
     have m:=P.1
     have h1:=P.2.1
     have h2:=P.2.2.1
     have h3:=P.2.2.2
     clear P
     replace h3:i+1<=out.size:=by
      split at h3<;>lia
     dsimp only
     refine yC0 (M:=model prog w) (A:=A) (E:=E) (s:=s) (λK=>by
      refine zAM (λhg=>?gpos) (λhg=>?gneg)
      case gneg =>
       generalize gg=g'
       exact K g'
      case gpos=>exact K (gg-1)) (λgg=>?_)
     refine yAU ?_
     refine zC9 h2 (yCY hA O ((g3.set _).kind hk) (hb _ (Array.getElem_mem h2)) ha (by lia) (by lia) (λi j hj hij _=>sa (ia+i) (ia+j) hj (by lia)) λk hk' c1 c2=>?_)
     have c2':∀(i:Nat) (hi:i<a.size),ia+k<=i->L a[i] b[ib]=false:=λi hi hik=>O.asym _ _ (hb _ (Array.getElem_mem h2)) (ha _ (Array.getElem_mem hi)) (by
      have z:=c2 (i-ia) (by lia) (by lia) (by lia)
      simpa[show ia+(i-ia)=i by lia] using z)
     dsimp only
     refine via (λ(out:Array Keyed) (ia:Nat)=>MidO L a b out ia ib/\ia+1<a.size/\i+1<=out.size/\∀(i:Nat) (hi:i<a.size),ia<=i->L a[i] b[ib]=false) (λK=>by
      by_cases hk0:¬(k>0)
      ·rw[if_neg hk0]
       have hP:MidO L a b out ia ib/\ia+1<a.size/\i+1<=out.size/\∀(i:Nat) (hi:i<a.size),ia<=i->L a[i] b[ib]=false:=⟨m,h1,h3,λi hi hik=>c2' i hi (by lia)⟩
       revert hP
       generalize out=out',ia=ia'
       exact λhP=>K out' ia' hP
      ·rw[if_pos (Decidable.not_not.mp hk0)]
       replace m:=m.manyA sa (k:=k) (by lia) λi hi h1' h2' j hj hjb=>O.trans _ _ _ (ha _ (Array.getElem_mem hi)) (hb _ (Array.getElem_mem h2)) (hb _ (Array.getElem_mem hj)) (by
        have z:=c1 (i-ia) (by lia) (by lia)
        simpa[show ia+(i-ia)=i by lia] using z) (sb.le O hb hj hjb)
       refine zAM (λq1=>wpS_pure ⟨g3.set _,some _,_,_,_,_,_,_,rfl,m.m.lastA,m.lastA sa sb (beq_iff_eq.mp q1) hl⟩) (λq1=>?_)
       replace q1:¬(ia+k+1=a.size):=λz=>q1 (beq_iff_eq.mpr z)
       refine zAM (λq2=>wpS_pure ⟨g3.set _,some _,_,_,_,_,_,_,rfl,m.m.done,m.doneA sb (beq_iff_eq.mp q2)⟩) (λq2=>?_)
       replace q2:¬(ia+k=a.size):=λz=>q2 (beq_iff_eq.mpr z)
       exact K _ _ ⟨m,by lia,by rw[Array.size_append];lia,c2'⟩) ?_
     clear c1 c2 c2' m h1 h3 hk'
     intro out ia P
     have m:=P.1
     have h1:=P.2.1
     have h3:=P.2.2.1
     have c2':=P.2.2.2
     clear P
     refine zC9 h2 ?_
     have hs0:=m.m.sz
     replace m:=m.pushB sb h2 c2'
     have hs:=m.m.sz
     refine zAM (λq3=>wpS_pure ⟨g3.set _,some _,_,_,_,_,_,_,rfl,m.m.done,m.doneB sa (beq_iff_eq.mp q3)⟩) (λq3=>?_)
     replace q3:¬(ib+1=b.size):=λz=>q3 (beq_iff_eq.mpr z)
     refine zC9 (by lia) (yCZ hA O ((g3.set _).kind hk) (ha _ (Array.getElem_mem _)) hb (by lia) (by lia) (λi j hj hij _=>sb (ib+1+i) (ib+1+j) hj (by lia)) λk2 hk2 d1 d2=>?_)
     dsimp only
     refine via (λ(out:Array Keyed) (ib:Nat)=>MidO L a b out ia ib/\ib<b.size/\i+2<=out.size/\∀(i:Nat) (hi:i<b.size),ib<=i->L b[i] (a[ia]'(by lia))=false) (λK=>by
      by_cases hk1:¬(k2>0)
      ·rw[if_neg hk1]
       have hP:MidO L a b (out.push b[ib]) ia (ib+1)/\ib+1<b.size/\i+2<=(out.push b[ib]).size/\∀(i:Nat) (hi:i<b.size),ib+1<=i->L b[i] (a[ia]'(by lia))=false:=⟨m,by lia,by rw[Array.size_push];lia,λi hi hii=>by
        have z:=d2 (i-(ib+1)) (by lia) (by lia) (by lia)
        simpa[show ib+1+(i-(ib+1))=i by lia] using z⟩
       revert hP
       generalize out.push b[ib]=out',ib+1=ib'
       exact λhP=>K out' ib' hP
      ·rw[if_pos (Decidable.not_not.mp hk1)]
       replace m:=m.manyB sb (k:=k2) (by lia) λi hi h1' h2' j hj hja=>O.trans _ _ _ (hb _ (Array.getElem_mem hi)) (ha _ (Array.getElem_mem _)) (ha _ (Array.getElem_mem hj)) (O.asym _ _ (hb _ (Array.getElem_mem hi)) (ha _ (Array.getElem_mem _)) (by
        have z:=d1 (i-(ib+1)) (by lia) (by lia)
        simpa[show ib+1+(i-(ib+1))=i by lia] using z)) (sa.le O ha hj hja)
       refine zAM (λq4=>wpS_pure ⟨g3.set _,some _,_,_,_,_,_,_,rfl,m.m.done,m.doneB sa (beq_iff_eq.mp q4)⟩) (λq4=>?_)
       replace q4:¬(ib+1+k2=b.size):=λz=>q4 (beq_iff_eq.mpr z)
       exact K _ _ ⟨m,by lia,by rw[Array.size_append];lia,λi hi hii=>by
        have z:=d2 (i-(ib+1)) (by lia) (by lia) (by lia)
        simpa[show ib+1+(i-(ib+1))=i by lia] using z⟩) ?_
     clear d1 d2 hk2 m q3 hs hs0 h3 c2'
     intro out ib P
     have m:=P.1
     have h2:=P.2.1
     have h3:=P.2.2.1
     have d2:=P.2.2.2
     clear P
     refine zC9 (by lia) ?_
     have hs2:=m.m.sz
     replace m:=m.pushA sa (by lia) d2
     have hs3:=m.m.sz
     refine zAM (λq5=>?_) (λq5=>?_)
     ·exact wpS_pure ⟨g3.set _,some _,_,_,_,_,_,_,rfl,m.m.lastA,m.lastA sa sb (beq_iff_eq.mp q5) hl⟩
     ·have q5':¬(_=_):=λz=>q5 (beq_iff_eq.mpr z)
      refine zAM (λq6=>?_) (λq6=>?_)
      ·exact wpS_pure ⟨g3.set _,none,_,_,_,_,_,_,rfl,m,by lia,h2,by lia⟩
      ·exact wpS_pure ⟨g3.set _,_,_,_,_,_,_,rfl,m,by lia,h2,by rw[if_neg (by lia)];lia⟩
    case post2 =>
     intro c st3 H
     refine yCW (c:=c) H λg3 r out ia ib gg ac bc hr=>?_
     clear H
     cases r with
     |some r=>exact wpS_pure ⟨g3,r,_,_,_,_,rfl,hr⟩
     |none =>
      have m:=hr.1
      have h1:=hr.2.1
      have h2:=hr.2.2.1
      have h3:=hr.2.2.2
      clear hr
      exact yAU (wpS_pure ⟨g3.set _,_,_,_,_,rfl,m,h1,h2,h3⟩)
end
structure MidHO(L:Keyed->Keyed->Bool)(a b out:Array Keyed)(na nb:Nat):Prop where
 m:MidH a b out na nb
 so:out.toList.Pairwise λx y=>L x y=false
 oa:∀x∈out,∀(i:Nat) (hi:i<a.size),i<na->L x a[i]=false
 ob:∀x∈out,∀(i:Nat) (hi:i<b.size),i<nb->L x b[i]=false
section
variable{L:Keyed->Keyed->Bool}{a b out:Array Keyed}{na nb:Nat}
theorem zMB{x:Keyed}(h:out.toList.Pairwise λx y=>L x y=false)(hx:∀y∈out,L y x=false):(out.push x).toList.Pairwise λx y=>L x y=false:=by
 rw[Array.toList_push,List.pairwise_append]
 refine⟨h,List.pairwise_singleton _ _,λy hy z hz=>?_⟩
 rw[List.mem_singleton.mp hz]
 exact hx y (Array.mem_toList_iff.mp hy)
theorem MidHO.pushA(m:MidHO L a b out na nb)(sa:SA L a)(h0:1<=na)(h:na-1<a.size)(hle:∀(j:Nat) (hj:j<b.size),j<nb->L a[na-1] b[j]=false):MidHO L a b (out.push a[na-1]) (na-1) nb where
 m:=m.m.pushA h0 h
 so:=zMB m.so λy hy=>m.oa y hy (na-1) h (by lia)
 oa:=λx hx i hi hia=>by
  rcases Array.mem_push.mp hx with hx|rfl
  ·exact m.oa x hx i hi (by lia)
  ·exact sa i (na-1) h (by lia)
 ob:=λx hx i hi hib=>by
  rcases Array.mem_push.mp hx with hx|rfl
  ·exact m.ob x hx i hi hib
  ·exact hle i hi hib
theorem MidHO.pushB(m:MidHO L a b out na nb)(sb:SA L b)(h0:1<=nb)(h:nb-1<b.size)(hle:∀(j:Nat) (hj:j<a.size),j<na->L b[nb-1] a[j]=false):MidHO L a b (out.push b[nb-1]) na (nb-1) where
 m:=m.m.pushB h0 h
 so:=zMB m.so λy hy=>m.ob y hy (nb-1) h (by lia)
 oa:=λx hx i hi hia=>by
  rcases Array.mem_push.mp hx with hx|rfl
  ·exact m.oa x hx i hi hia
  ·exact hle i hi hia
 ob:=λx hx i hi hib=>by
  rcases Array.mem_push.mp hx with hx|rfl
  ·exact m.ob x hx i hi (by lia)
  ·exact sb i (nb-1) h (by lia)
theorem zPA(a:Array Keyed){i n:Nat}(h:i<n)(hn:n-1<a.size):out++(a.extract i n).reverse=(out.push a[n-1])++(a.extract i (n-1)).reverse:=by
 have e:a.extract i n=(a.extract i (n-1)).push a[n-1]:=by
  have z:=zHR (out:=#[]) a (i:=i) (k:=n-1-i) (by lia)
  rw[show i+(n-1-i+1)=n by lia] at z
  simpa[show i+(n-1-i)=n-1 by lia] using z
 rw[e]
 generalize a.extract i (n-1)=x
 generalize a[n-1]=y
 apply Array.ext'
 simp
theorem MidHO.manyA(sa:SA L a){i0:Nat}(m:MidHO L a b out na nb)(h:i0<=na)(hle:∀(i:Nat) (hi:i<a.size),i0<=i->i<na->∀(j:Nat) (hj:j<b.size),j<nb->L a[i] b[j]=false):MidHO L a b (out++(a.extract i0 na).reverse) i0 nb:=by
 obtain⟨d,hd⟩:∃d,na=i0+d:=⟨na-i0,by lia⟩
 induction d generalizing na out with
 |zero =>
  have e0:na=i0:=by lia
  subst e0
  have e:out++(a.extract na na).reverse=out:=by
   have:a.extract na na=#[]:=by simp<;>lia
   rw[this];simp
  rw[e];exact m
 |succ d ih =>
  have la:=m.m.la
  rw[zPA a (show i0<na by lia) (by lia)]
  exact ih (m.pushA sa (by lia) (by lia) λj hj hjn=>hle (na-1) (by lia) (by lia) (by lia) j hj hjn) (by lia) (λi hi h1 h2=>hle i hi h1 (by lia)) (by lia)
theorem MidHO.manyB(sb:SA L b){i0:Nat}(m:MidHO L a b out na nb)(h:i0<=nb)(hle:∀(i:Nat) (hi:i<b.size),i0<=i->i<nb->∀(j:Nat) (hj:j<a.size),j<na->L b[i] a[j]=false):MidHO L a b (out++(b.extract i0 nb).reverse) na i0:=by
 obtain⟨d,hd⟩:∃d,nb=i0+d:=⟨nb-i0,by lia⟩
 induction d generalizing nb out with
 |zero =>
  have e0:nb=i0:=by lia
  subst e0
  have e:out++(b.extract nb nb).reverse=out:=by
   have:b.extract nb nb=#[]:=by simp<;>lia
   rw[this];simp
  rw[e];exact m
 |succ d ih =>
  have lb:=m.m.lb
  rw[zPA b (show i0<nb by lia) (by lia)]
  exact ih (m.pushB sb (by lia) (by lia) λj hj hjn=>hle (nb-1) (by lia) (by lia) (by lia) j hj hjn) (by lia) (λi hi h1 h2=>hle i hi h1 (by lia)) (by lia)
theorem zPB(h:out.toList.Pairwise λx y=>L x y=false):out.reverse.toList.Pairwise λx y=>L y x=false:=by
 rw[Array.toList_reverse,List.pairwise_reverse];exact h
theorem MidHO.doneA(m:MidHO L a b out na nb)(sb:SA L b)(h:na=0):(a.extract 0 na++b.extract 0 nb++out.reverse).toList.Pairwise λx y=>L y x=false:=by
 have z:=zPB (m.manyB sb (i0:=0) (Nat.zero_le _) λi hi h1 h2 j hj hjn=>by lia).so
 subst h
 simpa using z
theorem MidHO.doneB(m:MidHO L a b out na nb)(sa:SA L a)(h:nb=0):(a.extract 0 na++b.extract 0 nb++out.reverse).toList.Pairwise λx y=>L y x=false:=by
 have z:=zPB (m.manyA sa (i0:=0) (Nat.zero_le _) λi hi h1 h2 j hj hjn=>by lia).so
 subst h
 simpa using z
theorem MidHO.firstB(m:MidHO L a b out na nb)(sa:SA L a)(sb:SA L b)(h:nb=1)(hf:∀(i:Nat) (hi:i<a.size),L a[i] (b[0]'(by have:=m.m.lb;lia))=false):(b.extract 0 nb++a.extract 0 na++out.reverse).toList.Pairwise λx y=>L y x=false:=by
 have z1:=m.manyA sa (i0:=0) (Nat.zero_le _) λi hi h1 h2 j hj hjn=>by
  have e:j=0:=by lia
  subst e
  exact hf i hi
 have z:=zPB (z1.manyB sb (i0:=0) (Nat.zero_le _) λi hi h1 h2 j hj hjn=>by lia).so
 simpa using z
end
section
variable{prog:Program}{w:World}{A:Around}{E:Value->Shared->Prop}{s:Shared}{a₀:Array Keyed}{kd:SortKind}{L:Keyed->Keyed->Bool}
theorem yC1{α β γ δ:Type}{T:β->γ->δ->StateT SortSt Sem α}{M:Model}{A:Around}{E:Value->Shared->Prop}{s:Shared}{Q:α->SortSt->Prop}{st:SortSt}{goal:Prop}(P:β->γ->Prop)(h1:(∀x y z,P x y->wpS M A E s (T x y z) Q st)->goal)(h2:∀x y z,P x y->wpS M A E s (T x y z) Q st):goal:=h1 h2
theorem zK1{st:SortSt}{a b:Array Keyed}{Q:Array Keyed->SortSt->Prop}(hA:zJF prog w A s kd a₀ L)(O:Ord L a₀)(hk:kindOf st=kd)(ha:∀x∈a,x∈a₀)(hb:∀x∈b,x∈a₀)(na:1<=a.size)(nb:1<=b.size)(sa:SA L a)(sb:SA L b)(hf:∀(i:Nat) (hi:i<a.size),L a[i] (b[0]'(by lia))=false)(hl:∀(j:Nat) (hj:j<b.size),L (a[a.size-1]'(by lia)) b[j]=false)
  (h:∀c st',Gal st st'->c.Perm (a++b)->(c.toList.Pairwise λx y=>L y x=false)->Q c st'):wpS (model prog w) A E s (zRY a b) Q st:=by
 refine wpS_bind (wpS_lift (wpAny_rule ⟨rfl,?_⟩))
 dsimp only
 refine zC9 (by lia) ?_
 have m0:MidHO L a b #[a[a.size-1]] (a.size-1) b.size:=by
  have z:MidHO L a b #[] a.size b.size:=⟨⟨by rw[List.take_of_length_le (by simp),List.take_of_length_le (by simp)];simp,by lia,by lia,by simp⟩,List.Pairwise.nil,λx hx=>by simp at hx,λx hx=>by simp at hx⟩
  exact z.pushA sa (by lia) (by lia) λj hj _=>hl j hj
 refine zAM (λe1=>?_) (λe1=>?_)
 ·exact wpS_pure (h _ _ (Gal.refl st) m0.m.done (m0.doneA sb (beq_iff_eq.mp e1)))
 refine zAM (λe2=>?_) (λe2=>?_)
 ·exact wpS_pure (h _ _ (Gal.refl st) m0.m.firstB (m0.firstB sa sb (beq_iff_eq.mp e2) hf))
 have e1':¬(a.size-1=0):=λz=>e1 (beq_iff_eq.mpr z)
 have e2':¬(b.size=1):=λz=>e2 (beq_iff_eq.mpr z)
 refine wpS_bind (wpS_get ?_)
 refine zGR
  (I:=λi c st'=>Gal st st'/\∃na nb out g,c=(none,na,nb,out,g)/\MidHO L a b out na nb/\1<=na/\2<=nb/\i+1<=out.size)
  (R:=λc st'=>Gal st st'/\∃r na nb out g,c=(some r,na,nb,out,g)/\(r.Perm (a++b)/\r.toList.Pairwise λx y=>L y x=false)) ?step ?fin ?init ?post
 case init=>exact⟨Gal.refl st,_,_,_,_,rfl,m0,by lia,by lia,by simp⟩
 case post =>
  intro c st' H
  refine zXQ (c:=c) H λg r ia ib out gg p=>?_
  clear H
  exact wpS_pure (h _ _ g p.1 p.2)
 case fin =>
  intro c st' H
  refine yAT (c:=c) H λg na nb out gg P=>?_
  clear H
  have m:=P.1
  have h1:=P.2.1
  have h2:=P.2.2.1
  have h3:=P.2.2.2
  clear P
  exfalso
  have:=m.m.sz
  lia
 case step =>
  intro i c st' _ hi H
  refine yAT (c:=c) H λg na nb out gg P=>?_
  clear H
  have m:=P.1
  have h1:=P.2.1
  have h2:=P.2.2.1
  have h3:=P.2.2.2
  clear P
  dsimp only
  have tot:0<a.size+b.size:=by lia
  refine zGR
   (I:=λ_ c st2=>Gal st st2/\∃na nb out ac bc,c=(none,na,nb,out,ac,bc)/\MidHO L a b out na nb/\1<=na/\2<=nb/\i+1<=out.size)
   (R:=λc st2=>Gal st st2/\∃r na nb out ac bc,c=(r,na,nb,out,ac,bc)/\(match r with
    |some r=>(r.Perm (a++b)/\r.toList.Pairwise λx y=>L y x=false)
    |none=>MidHO L a b out na nb/\1<=na/\2<=nb/\i+1<=out.size)) ?step1 ?fin1 ⟨g,_,_,_,_,_,rfl,m,h1,h2,h3⟩ ?post1
  case fin1 =>
   intro c st2 H
   refine zXQ (c:=c) H λg2 na nb out ac bc P=>?_
   clear H
   have m:=P.1
   have h1:=P.2.1
   have h2:=P.2.2.1
   have h3:=P.2.2.2
   clear P
   exact⟨g2,none,_,_,_,_,_,rfl,m,h1,h2,h3⟩
  case step1 =>
   intro j c st2 _ hj H
   refine zXQ (c:=c) H λg2 na nb out ac bc P=>?_
   clear H
   have m:=P.1
   have h1:=P.2.1
   have h2:=P.2.2.1
   have h3:=P.2.2.2
   clear P
   dsimp only
   have la:=m.m.la
   have lb:=m.m.lb
   refine zC9 (by lia) (zC9 (by lia) (yCX hA (g2.kind hk) (hb _ (Array.getElem_mem _)) (ha _ (Array.getElem_mem _)) ?_))
   have hia:na-1<a.size:=by lia
   have hib:nb-1<b.size:=by lia
   refine zAM (λew=>?_) (λew=>?_)
   ·refine zC9 hia ?_
    have m2:=m.pushA sa h1 hia λj hj hjn=>O.trans _ _ _ (hb _ (Array.getElem_mem hj)) (hb _ (Array.getElem_mem hib)) (ha _ (Array.getElem_mem hia)) (sb.le O hb hib (by lia)) (O.asym _ _ (hb _ (Array.getElem_mem hib)) (ha _ (Array.getElem_mem hia)) ew)
    have hs2:i+1<=(out.push a[na-1]).size:=by rw[Array.size_push];lia
    refine zAM (λq=>wpS_pure ⟨g2,some _,_,_,_,_,_,rfl,m2.m.done,m2.doneA sb (beq_iff_eq.mp q)⟩) (λq=>?_)
    have h1':1<=na-1:=Nat.pos_of_ne_zero λz=>q (beq_iff_eq.mpr z)
    refine zAM (λq=>?_) (λq=>?_)
    ·exact wpS_pure ⟨g2,none,_,_,_,_,_,rfl,m2,h1',h2,hs2⟩
    ·exact wpS_pure ⟨g2,_,_,_,_,_,rfl,m2,h1',h2,hs2⟩
   ·refine zC9 hib ?_
    have m2:=m.pushB sb (by lia) hib λj hj hjn=>O.trans _ _ _ (ha _ (Array.getElem_mem hj)) (ha _ (Array.getElem_mem hia)) (hb _ (Array.getElem_mem hib)) (sa.le O ha hia (by lia)) (Bool.eq_false_iff.mpr ew)
    have hs2:i+1<=(out.push b[nb-1]).size:=by rw[Array.size_push];lia
    refine zAM (λq=>wpS_pure ⟨g2,some _,_,_,_,_,_,rfl,m2.m.firstB,m2.firstB sa sb (beq_iff_eq.mp q) hf⟩) (λq=>?_)
    have h2':2<=nb-1:=by
     have q':¬(nb-1=1):=λz=>q (beq_iff_eq.mpr z)
     lia
    refine zAM (λq=>?_) (λq=>?_)
    ·exact wpS_pure ⟨g2,none,_,_,_,_,_,rfl,m2,h1,h2',hs2⟩
    ·exact wpS_pure ⟨g2,_,_,_,_,_,rfl,m2,h1,h2',hs2⟩
  case post1 =>
   intro c st2 H
   refine zXR (c:=c) H λg2 r na nb out ac bc hr=>?_
   clear H
   cases r with
   |some r=>exact wpS_pure ⟨g2,r,_,_,_,_,rfl,hr⟩
   |none =>
    have m:=hr.1
    have h1:=hr.2.1
    have h2:=hr.2.2.1
    have h3:=hr.2.2.2
    clear hr
    dsimp only
    refine wpS_bind (wpS_lift (wpAny_rule ⟨rfl,?_⟩))
    refine zGR
     (I:=λj c st3=>Gal st st3/\∃na nb out gg ac bc,c=(none,na,nb,out,gg,ac,bc)/\MidHO L a b out na nb/\1<=na/\2<=nb/\i+1+(if j=0 then 0 else 1)<=out.size)
     (R:=λc st3=>Gal st st3/\∃r na nb out gg ac bc,c=(r,na,nb,out,gg,ac,bc)/\(match r with
      |some r=>(r.Perm (a++b)/\r.toList.Pairwise λx y=>L y x=false)
      |none=>MidHO L a b out na nb/\1<=na/\2<=nb/\i+2<=out.size)) ?step2 ?fin2 ⟨g2,_,_,_,_,_,_,rfl,m,h1,h2,by simpa using h3⟩ ?post2
    case fin2 =>
     intro c st3 H
     refine zXR (c:=c) H λg3 na nb out gg ac bc P=>?_
     clear H
     have m:=P.1
     have h1:=P.2.1
     have h2:=P.2.2.1
     have h3:=P.2.2.2
     clear P
     rw[if_neg (by lia)] at h3
     exact⟨g3,none,_,_,_,_,_,_,rfl,m,h1,h2,h3⟩
    case step2 =>
     intro j c st3 _ hj H
     refine zXR (c:=c) H λg3 na nb out gg ac bc P=>?_
     clear H
     have m:=P.1
     have h1:=P.2.1
     have h2:=P.2.2.1
     have h3:=P.2.2.2
     clear P
     replace h3:i+1<=out.size:=by
      split at h3<;>lia
     dsimp only
     have la:=m.m.la
     have lb:=m.m.lb
     refine yC0 (λK=>by
      refine zAM (λhg=>?gpos) (λhg=>?gneg)
      case gneg =>
       generalize gg=g'
       exact K g'
      case gpos=>exact K (gg-1)) (λgg=>?_)
     refine yAU ?_
     refine zC9 (by lia) (yCY hA O ((g3.set _).kind hk) (hb _ (Array.getElem_mem _)) ha (by lia) (by lia) (λi j hj hij _=>sa (0+i) (0+j) hj (by lia)) λk hk' c1 c2=>?_)
     have hib:nb-1<b.size:=by lia
     have c1':∀(i:Nat) (hi:i<a.size),i<k->L b[nb-1] a[i]=false:=λi hi hik=>by
      have z:=c1 i (by lia) hik
      simpa using z
     dsimp only
     refine yC1 (λ(out:Array Keyed) (na:Nat)=>MidHO L a b out na nb/\1<=na/\i+1<=out.size/\∀(i:Nat) (hi:i<a.size),i<na->L b[nb-1] a[i]=false) (λK=>by
      by_cases hk0:¬(na-k>0)
      ·rw[if_neg hk0]
       have hP:MidHO L a b out na nb/\1<=na/\i+1<=out.size/\∀(i:Nat) (hi:i<a.size),i<na->L b[nb-1] a[i]=false:=⟨m,h1,h3,λi hi hik=>c1' i hi (by lia)⟩
       revert hP
       generalize na-k=ac'
       generalize out=out',na=na'
       exact λhP=>K out' na' ac' hP
      ·rw[if_pos (Decidable.not_not.mp hk0)]
       replace m:=m.manyA sa hk' λi hi h1' h2' j hj hjn=>O.trans _ _ _ (hb _ (Array.getElem_mem hj)) (hb _ (Array.getElem_mem hib)) (ha _ (Array.getElem_mem hi)) (sb.le O hb hib (by lia)) (O.asym _ _ (hb _ (Array.getElem_mem hib)) (ha _ (Array.getElem_mem hi)) (by
        have z:=c2 i (by lia) h1' h2'
        simpa using z))
       refine zAM (λq1=>wpS_pure ⟨g3.set _,some _,_,_,_,_,_,_,rfl,m.m.done,m.doneA sb (beq_iff_eq.mp q1)⟩) (λq1=>?_)
       replace q1:¬(k=0):=λz=>q1 (beq_iff_eq.mpr z)
       exact K _ _ _ ⟨m,by lia,by rw[Array.size_append];lia,c1'⟩) ?_
     clear c1 c2 c1' m h1 h3 hk' la
     intro out na ac P
     have m:=P.1
     have h1:=P.2.1
     have h3:=P.2.2.1
     have c1':=P.2.2.2
     clear P
     refine zC9 (by lia) ?_
     have hs0:=m.m.sz
     have la:=m.m.la
     replace m:=m.pushB sb (by lia) (by lia) c1'
     have hs:=m.m.sz
     refine zAM (λq3=>wpS_pure ⟨g3.set _,some _,_,_,_,_,_,_,rfl,m.m.firstB,m.firstB sa sb (beq_iff_eq.mp q3) hf⟩) (λq3=>?_)
     have q3':¬(nb-1=1):=λz=>q3 (beq_iff_eq.mpr z)
     refine zC9 (by lia) (yCZ hA O ((g3.set _).kind hk) (ha _ (Array.getElem_mem _)) hb (by lia) (by lia) (λi j hj hij _=>sb (0+i) (0+j) hj (by lia)) λk2 hk2 d1 d2=>?_)
     have hia:na-1<a.size:=by lia
     have d1':∀(j:Nat) (hj:j<b.size),j<k2->L a[na-1] b[j]=false:=λj hj hjn=>O.asym _ _ (hb _ (Array.getElem_mem hj)) (ha _ (Array.getElem_mem _)) (by
      have z:=d1 j (by lia) hjn
      simpa using z)
     dsimp only
     refine yC1 (λ(out:Array Keyed) (nb:Nat)=>MidHO L a b out na nb/\2<=nb/\i+2<=out.size/\∀(j:Nat) (hj:j<b.size),j<nb->L a[na-1] b[j]=false) (λK=>by
      by_cases hk1:¬(nb-1-k2>0)
      ·rw[if_neg hk1]
       have hP:MidHO L a b (out.push b[nb-1]) na (nb-1)/\2<=nb-1/\i+2<=(out.push b[nb-1]).size/\∀(j:Nat) (hj:j<b.size),j<nb-1->L a[na-1] b[j]=false:=⟨m,by lia,by rw[Array.size_push];lia,λj hj hjn=>d1' j hj (by lia)⟩
       revert hP
       generalize nb-1-k2=bc'
       generalize out.push b[nb-1]=out'
       generalize nb-1=nb'
       exact λhP=>K out' nb' bc' hP
      ·rw[if_pos (Decidable.not_not.mp hk1)]
       replace m:=m.manyB sb hk2 λi hi h1' h2' j hj hjn=>O.trans _ _ _ (ha _ (Array.getElem_mem hj)) (ha _ (Array.getElem_mem hia)) (hb _ (Array.getElem_mem hi)) (sa.le O ha hia (by lia)) (by
        have z:=d2 i (by lia) h1' h2'
        simpa using z)
       refine zAM (λq4=>wpS_pure ⟨g3.set _,some _,_,_,_,_,_,_,rfl,m.m.firstB,m.firstB sa sb (beq_iff_eq.mp q4) hf⟩) (λq4=>?_)
       replace q4:¬(k2=1):=λz=>q4 (beq_iff_eq.mpr z)
       refine zAM (λq5=>wpS_pure ⟨g3.set _,some _,_,_,_,_,_,_,rfl,m.m.done,m.doneB sa (beq_iff_eq.mp q5)⟩) (λq5=>?_)
       replace q5:¬(k2=0):=λz=>q5 (beq_iff_eq.mpr z)
       exact K _ _ _ ⟨m,by lia,by rw[Array.size_append,Array.size_push];lia,d1'⟩) ?_
     clear d1 d2 d1' hk2 m hs hs0 h3 c1'
     intro out nb' bc P
     have m:=P.1
     have h2':=P.2.1
     have h3:=P.2.2.1
     have d1':=P.2.2.2
     clear P
     refine zC9 (by lia) ?_
     have hs2:=m.m.sz
     replace m:=m.pushA sa (by lia) (by lia) d1'
     have hs3:=m.m.sz
     refine zAM (λq6=>wpS_pure ⟨g3.set _,some _,_,_,_,_,_,_,rfl,m.m.done,m.doneA sb (beq_iff_eq.mp q6)⟩) (λq6=>?_)
     have q6':¬(na-1=0):=λz=>q6 (beq_iff_eq.mpr z)
     refine zAM (λq7=>?_) (λq7=>?_)
     ·exact wpS_pure ⟨g3.set _,none,_,_,_,_,_,_,rfl,m,by lia,h2',by lia⟩
     ·exact wpS_pure ⟨g3.set _,_,_,_,_,_,_,rfl,m,by lia,h2',by rw[if_neg (by lia)];lia⟩
    case post2 =>
     intro c st3 H
     refine yCW (c:=c) H λg3 r na nb out gg ac bc hr=>?_
     clear H
     cases r with
     |some r=>exact wpS_pure ⟨g3,r,_,_,_,_,rfl,hr⟩
     |none =>
      have m:=hr.1
      have h1:=hr.2.1
      have h2:=hr.2.2.1
      have h3:=hr.2.2.2
      clear hr
      exact yAU (wpS_pure ⟨g3.set _,_,_,_,_,rfl,m,h1,h2,h3⟩)
end
def Seg(L:Keyed->Keyed->Bool)(a:Array Keyed)(i n:Nat):Prop:=∀(p q:Nat) (hq:q<a.size) (hpq:p<q),i<=p->q<i+n->L a[q] (a[p]'(by lia))=false
theorem zVL{a c:Array Keyed}{sa:Nat}(h:sa+c.size<=a.size):(c.toList.zipIdx.foldl (λa (p:Keyed×Nat)=>a.setIfInBounds (sa+p.2) p.1) a).size=a.size /\
  ∀(p:Nat) (hp:p<(c.toList.zipIdx.foldl (λa (p:Keyed×Nat)=>a.setIfInBounds (sa+p.2) p.1) a).size) (hp':p<a.size),
   (c.toList.zipIdx.foldl (λa (p:Keyed×Nat)=>a.setIfInBounds (sa+p.2) p.1) a)[p]=if h:sa<=p/\p-sa<c.size then c[p-sa]'h.2 else a[p]:=by
 have e:=zOX c.toList a sa 0 (by simpa using h)
 generalize c.toList.zipIdx.foldl (λa (p:Keyed×Nat)=>a.setIfInBounds (sa+p.2) p.1) a=r at e ⊢
 rw[show sa+0=sa by lia] at e
 have hs:r.size=a.size:=by
  have:=congrArg List.length e
  simp at this
  lia
 refine⟨hs,λp hp hp'=>?_⟩
 have e2:r.toList[p]?=(a.toList.take sa++c.toList++a.toList.drop (sa+c.toList.length))[p]?:=by rw[e]
 rw[Array.getElem?_toList,getElem?_pos r p hp] at e2
 have hl:(a.toList.take sa).length=sa:=by simp;lia
 by_cases h1:p<sa
 ·rw[dif_neg (by lia)]
  rw[List.append_assoc,List.getElem?_append_left (by lia),List.getElem?_take_of_lt h1,Array.getElem?_toList,getElem?_pos a p hp'] at e2
  exact Option.some.inj e2
 ·by_cases h2:p-sa<c.size
  ·rw[dif_pos ⟨by lia,h2⟩]
   rw[List.append_assoc,List.getElem?_append_right (by lia),hl,List.getElem?_append_left (by simpa using h2),Array.getElem?_toList,getElem?_pos c (p-sa) h2] at e2
   exact Option.some.inj e2
  ·rw[dif_neg (by lia)]
   rw[List.append_assoc,List.getElem?_append_right (by lia),hl,List.getElem?_append_right (by simp;lia),List.getElem?_drop] at e2
   rw[show sa+c.toList.length+(p-sa-c.toList.length)=p by simp;lia,Array.getElem?_toList,getElem?_pos a p hp'] at e2
   exact Option.some.inj e2
section
variable{prog:Program}{w:World}{A:Around}{E:Value->Shared->Prop}{s:Shared}{a₀:Array Keyed}{kd:SortKind}{L:Keyed->Keyed->Bool}
theorem zK2{a:Array Keyed}{i j:Nat}{x:Keyed}(hx:x∈a.extract i j):∃(p:Nat) (hp:p<a.size),i<=p/\p<j/\x=a[p]:=by
 rw[Array.mem_iff_getElem] at hx
 obtain⟨k,hk,rfl⟩:=hx
 rw[Array.size_extract] at hk
 exact⟨i+k,by lia,by lia,by lia,by simp⟩
theorem yDT{P goal:Prop}(h1:P->goal)(h2:P):goal:=h1 h2
theorem zK3{st:SortSt}{i sa na sb nb pa pb:Nat}{Q:Bool->SortSt->Prop}(hA:zJF prog w A s kd a₀ L)(O:Ord L a₀)(hB:SB a₀ kd st)(e1:(pendingOf st)[i]?=some (sa,na,pa))(e2:(pendingOf st)[i+1]?=some (sb,nb,pb))
  (h1:1<=na) (h2:1<=nb) (hsb:sb=sa+na) (hz:sb+nb<=a₀.size) (ga:Seg L (arrOf st) sa na) (gb:Seg L (arrOf st) sb nb)
  (h:∀st',SB a₀ kd st'->pendingOf st'=((pendingOf st).setIfInBounds i (sa,na+nb,pa)).eraseIdxIfInBounds (i+1)->Seg L (arrOf st') sa (na+nb) ->
   (∀(p:Nat) (hp:p<(arrOf st').size) (hp':p<(arrOf st).size),p<sa\/sa+(na+nb)<=p->(arrOf st')[p]=(arrOf st)[p])->Q true st') :
  wpS (model prog w) A E s (mergeAt' i) Q st:=by
 refine wpS_bind (wpS_get ?_)
 rw[e1,e2]
 dsimp only
 have hsz:=hB.size
 have hall:∀x∈arrOf st,x∈a₀:=λx hx=>hB.perm.mem_iff.mp hx
 have mm:∀(p:Nat) (hp:p<(arrOf st).size),(arrOf st)[p]∈a₀:=λp hp=>hall _ (Array.getElem_mem hp)
 refine wpS_bind (zVF ?_)
 have hB2:SB a₀ kd (setPending st (((pendingOf st).setIfInBounds i (sa,na+nb,pa)).eraseIdxIfInBounds (i+1))):=⟨hB.perm,hB.kind,hB.failed⟩
 have hsb0:sb<(arrOf st).size:=by lia
 -- b's first is at most the others of b;a's last is at least the others of a
 have b0:∀(q:Nat) (hq:q<(arrOf st).size),sb<=q->q<sb+nb->L (arrOf st)[q] (arrOf st)[sb]=false:=λq hq h3 h4=>by
  rcases Nat.lt_or_eq_of_le h3 with z|z
  ·exact gb sb q hq z (Nat.le_refl _) h4
  ·subst z;exact O.refl (mm _ _)
 have hal:sa+na-1<(arrOf st).size:=by lia
 have aL:∀(p:Nat) (hp:p<(arrOf st).size),sa<=p->p<sa+na->L (arrOf st)[sa+na-1] (arrOf st)[p]=false:=λp hp h3 h4=>by
  rcases Nat.lt_or_eq_of_le (show p<=sa+na-1 by lia) with z|z
  ·exact ga p (sa+na-1) hal z h3 (by lia)
  ·subst z;exact O.refl (mm _ _)
 refine wpS_bind (zDK (arr:=arrOf st) (by lia) (wpS_bind (zJG (arr:=arrOf st) hA O hB2.kind (hall _ (Array.getElem_mem _)) hall (by lia) (by lia) (λi j hj hij hjn=>ga (sa+i) (sa+j) hj (by lia) (by lia) (by lia)) λk hk c1 c2=>?_)))
 have c1':∀(p:Nat) (hp:p<(arrOf st).size),sa<=p->p<sa+k->L (arrOf st)[sb] (arrOf st)[p]=false:=λp hp h3 h4=>by
  have z:=c1 (p-sa) (by lia) (by lia)
  simpa[show sa+(p-sa)=p by lia] using z
 have c2':∀(p:Nat) (hp:p<(arrOf st).size),sa+k<=p->p<sa+na->L (arrOf st)[sb] (arrOf st)[p]=true:=λp hp h3 h4=>by
  have z:=c2 (p-sa) (by lia) (by lia) (by lia)
  simpa[show sa+(p-sa)=p by lia] using z
 dsimp only
 refine zAM (λq=>?_) (λq=>?_)
 ·have q':na-k=0:=beq_iff_eq.mp q
  refine wpS_pure (h _ hB2 rfl (λp r hr hpr h3 h4=>?_) λp hp hp' _=>rfl)
  by_cases ha':r<sa+na
  ·exact ga p r hr hpr h3 ha'
  ·by_cases hb':sb<=p
   ·exact gb p r hr hpr hb' (by lia)
   ·exact O.trans _ _ _ (mm p (by lia)) (mm sb hsb0) (mm r hr) (c1' p (by lia) h3 (by lia)) (b0 r hr (by lia) (by lia))
 have q':¬(na-k=0):=λz=>q (beq_iff_eq.mpr z)
 refine wpS_bind (zDK (arr:=arrOf st) (by lia) (wpS_bind (zJH (arr:=arrOf st) hA O hB2.kind (hall _ (Array.getElem_mem _)) hall (by lia) (by lia) (λi j hj hij hjn=>gb (sb+i) (sb+j) hj (by lia) (by lia) (by lia)) λm hm d1 d2=>?_)))
 have eal:sa+k+(na-k)-1=sa+na-1:=by lia
 have d1':∀(r:Nat) (hr:r<(arrOf st).size),sb<=r->r<sb+m->L (arrOf st)[r] (arrOf st)[sa+na-1]=true:=λr hr h3 h4=>by
  have z:=d1 (r-sb) (by lia) (by lia)
  simpa[show sb+(r-sb)=r by lia,eal] using z
 have d2':∀(r:Nat) (hr:r<(arrOf st).size),sb+m<=r->r<sb+nb->L (arrOf st)[r] (arrOf st)[sa+na-1]=false:=λr hr h3 h4=>by
  have z:=d2 (r-sb) (by lia) (by lia) (by lia)
  simpa[show sb+(r-sb)=r by lia,eal] using z
 dsimp only
 refine zAM (λr=>?_) (λr=>?_)
 ·have r':m=0:=beq_iff_eq.mp r
  refine wpS_pure (h _ hB2 rfl (λp r hr hpr h3 h4=>?_) λp hp hp' _=>rfl)
  by_cases ha':r<sa+na
  ·exact ga p r hr hpr h3 ha'
  ·by_cases hb':sb<=p
   ·exact gb p r hr hpr hb' (by lia)
   ·exact O.trans _ _ _ (mm p (by lia)) (mm _ hal) (mm r hr) (aL p (by lia) h3 (by lia)) (d2' r hr (by lia) (by lia))
 have r':¬(m=0):=λz=>r (beq_iff_eq.mpr z)
 have ex:∀i j x,x∈(arrOf st).extract i j->x∈a₀:=λi j x hx=>by
  obtain⟨p,hp,_,_,rfl⟩:=zK2 hx
  exact mm p hp
 have zx:((arrOf st).extract (sa+k) sb).size=na-k:=by rw[Array.size_extract];lia
 have zy:((arrOf st).extract sb (sb+m)).size=m:=by rw[Array.size_extract];lia
 have sx:SA L ((arrOf st).extract (sa+k) sb):=λi j hj hij=>by
  rw[zx] at hj
  simpa using ga (sa+k+i) (sa+k+j) (by lia) (by lia) (by lia) (by lia)
 have sy:SA L ((arrOf st).extract sb (sb+m)):=λi j hj hij=>by
  rw[zy] at hj
  simpa using gb (sb+i) (sb+j) (by lia) (by lia) (by lia) (by lia)
 have hf:∀(i:Nat) (hi:i<((arrOf st).extract (sa+k) sb).size),L ((arrOf st).extract (sa+k) sb)[i] (((arrOf st).extract sb (sb+m))[0]'(by lia))=false:=λi hi=>by
  have z:=O.asym _ _ (mm sb hsb0) (mm (sa+k+i) (by lia)) (c2' (sa+k+i) (by lia) (by lia) (by lia))
  simpa using z
 have hl:∀(j:Nat) (hj:j<((arrOf st).extract sb (sb+m)).size),L (((arrOf st).extract (sa+k) sb)[((arrOf st).extract (sa+k) sb).size-1]'(by lia)) ((arrOf st).extract sb (sb+m))[j]=false:=λj hj=>by
  have z:=O.asym _ _ (mm (sb+j) (by lia)) (mm (sa+na-1) hal) (d1' (sb+j) (by lia) (by lia) (by lia))
  simpa[zx,show sa+k+(na-k-1)=sa+na-1 by lia] using z
 refine yDT (λK=>zAM (λ_=>wpS_bind (zK0 (a:=(arrOf st).extract (sa+k) sb) (b:=(arrOf st).extract sb (sb+m)) hA O hB2.kind (ex _ _) (ex _ _) (by lia) (by lia) sx sy hf hl K)) (λ_=>wpS_bind (zK1 (a:=(arrOf st).extract (sa+k) sb) (b:=(arrOf st).extract sb (sb+m)) hA O hB2.kind (ex _ _) (ex _ _) (by lia) (by lia) sx sy hf hl K))) ?_
 rintro c st' ⟨g,rfl⟩ hp hpw
 refine wpS_bind (wpS_modify (wpS_bind (wpS_get (wpS_pure ?_))))
 have hn:(failedOf st).isNone=true:=by rw[hB.failed];rfl
 show Q (failedOf st).isNone _
 rw[hn]
 have hcs:c.size=na-k+m:=by rw[hp.size_eq,Array.size_append,zx,zy]
 obtain⟨os,oat⟩:=zVL (a:=arrOf st) (c:=c) (sa:=sa+k) (by lia)
 have cmem:∀(j:Nat) (hj:j<c.size),(∃(p:Nat) (hp:p<(arrOf st).size),sa+k<=p/\p<sb/\c[j]=(arrOf st)[p])\/∃(p:Nat) (hp:p<(arrOf st).size),sb<=p/\p<sb+m/\c[j]=(arrOf st)[p]:=λj hj=>by
  have hx:c[j]∈(arrOf st).extract (sa+k) sb++(arrOf st).extract sb (sb+m):=hp.mem_iff.mp (Array.getElem_mem hj)
  rcases Array.mem_append.mp hx with hx|hx
  ·exact .inl (zK2 hx)
  ·exact .inr (zK2 hx)
 refine h _ ⟨(zOY (by lia) (by lia) hp).trans hB.perm,hB.kind,hB.failed⟩ rfl (λp r hr hpr h3 h4=>?_) λp hpp hpp' hor=>?_
 ·have hr':r<(arrOf st).size:=by rw[<-os];exact hr
  show L (_:Array Keyed)[r] (_:Array Keyed)[p]=false
  rw[oat r hr hr',oat p (by lia) (by lia)]
  by_cases hp1:p<sa+k
  ·rw[dif_neg (show ¬(sa+k<=p/\p-(sa+k)<c.size) by lia)]
   by_cases hr1:r<sa+k
   ·rw[dif_neg (show ¬(sa+k<=r/\r-(sa+k)<c.size) by lia)]
    exact ga p r hr' hpr h3 (by lia)
   ·by_cases hr2:r-(sa+k)<c.size
    ·rw[dif_pos (show sa+k<=r/\r-(sa+k)<c.size from⟨by lia,hr2⟩)]
     rcases cmem _ hr2 with⟨u,hu,u1,u2,eu⟩|⟨u,hu,u1,u2,eu⟩
     ·rw[eu];exact ga p u hu (by lia) h3 (by lia)
     ·rw[eu];exact O.trans _ _ _ (mm p (by lia)) (mm sb hsb0) (mm u hu) (c1' p (by lia) h3 hp1) (b0 u hu u1 (by lia))
    ·rw[dif_neg (show ¬(sa+k<=r/\r-(sa+k)<c.size) by lia)]
     exact O.trans _ _ _ (mm p (by lia)) (mm sb hsb0) (mm r hr') (c1' p (by lia) h3 hp1) (b0 r hr' (by lia) (by lia))
  ·by_cases hp2:p-(sa+k)<c.size
   ·rw[dif_pos (show sa+k<=p/\p-(sa+k)<c.size from⟨by lia,hp2⟩)]
    by_cases hr2:r-(sa+k)<c.size
    ·rw[dif_pos (show sa+k<=r/\r-(sa+k)<c.size from⟨by lia,hr2⟩)]
     have z:=List.pairwise_iff_getElem.mp hpw (p-(sa+k)) (r-(sa+k)) (by simpa using hp2) (by simpa using hr2) (by lia)
     simpa using z
    ·rw[dif_neg (show ¬(sa+k<=r/\r-(sa+k)<c.size) by lia)]
     rcases cmem _ hp2 with⟨u,hu,u1,u2,eu⟩|⟨u,hu,u1,u2,eu⟩
     ·rw[eu];exact O.trans _ _ _ (mm u hu) (mm _ hal) (mm r hr') (aL u hu (by lia) (by lia)) (d2' r hr' (by lia) (by lia))
     ·rw[eu];exact gb u r hr' (by lia) u1 (by lia)
   ·rw[dif_neg (show ¬(sa+k<=p/\p-(sa+k)<c.size) by lia),dif_neg (show ¬(sa+k<=r/\r-(sa+k)<c.size) by lia)]
    exact gb p r hr' hpr (by lia) (by lia)
 ·show(_:Array Keyed)[p]=_
  rw[oat p hpp hpp',dif_neg (show ¬(sa+k<=p/\p-(sa+k)<c.size) by lia)]
end
theorem seg_iff{L:Keyed->Keyed->Bool}{a:Array Keyed}{i n:Nat}:Seg L a i n↔∀p q x y,p<q->i<=p->q<i+n->a[p]?=some x->a[q]?=some y->L y x=false:=by
 constructor
 ·intro h p q x y hpq hi hq ex ey
  obtain⟨h1,rfl⟩:=Array.getElem?_eq_some_iff.mp ex
  obtain⟨h2,rfl⟩:=Array.getElem?_eq_some_iff.mp ey
  exact h p q h2 hpq hi hq
 ·intro h p q hq hpq hi hn
  exact h p q _ _ hpq hi hn (getElem?_pos a p (by omega)) (getElem?_pos a q hq)
section
variable{prog:Program}{w:World}{A:Around}{E:Value->Shared->Prop}{s:Shared}{a₀:Array Keyed}{kd:SortKind}{L:Keyed->Keyed->Bool}
theorem zCO{st:SortSt}{i j:Nat}{Q:Option Bool->SortSt->Prop}(hA:zJF prog w A s kd a₀ L)(hB:SB a₀ kd st)(hi:i<(arrOf st).size)(hj:j<(arrOf st).size)(h:Q (some (L (arrOf st)[i] (arrOf st)[j])) st) :
  wpS (model prog w) A E s (ltAt' i j) Q st:=by
 rw[ltAt'_eq]
 refine wpS_bind (wpS_get ?_)
 exact wpS_bind (zDK hi (wpS_bind (zDK hj (zHQ hA hB.kind (hB.mem hi) (hB.mem hj) h))))
theorem zF9{st:SortSt}{lo n ok:Nat}{Q:Bool->SortSt->Prop}(hA:zJF prog w A s kd a₀ L)(O:Ord L a₀)(hn:lo+n<=a₀.size)(hok:ok<=n)(h1:1<=n)(hB:SB a₀ kd st)(hs:Seg L (arrOf st) lo ok)
  (h:∀st',SB a₀ kd st'->pendingOf st'=pendingOf st->Seg L (arrOf st') lo n->(∀p,p<lo->(arrOf st')[p]?=(arrOf st)[p]?)->Q true st'):wpS (model prog w) A E s (binarySort' lo n ok) Q st:=by
 rw[binarySort'_eq]
 refine wpS_bind (wpS_mono (wpS_forRange (I:=λk c st'=>c=(none,())/\SB a₀ kd st'/\pendingOf st'=pendingOf st/\Seg L (arrOf st') lo k/\∀p,p<lo->(arrOf st')[p]?=(arrOf st)[p]?)
  (Q:=λc st'=>c=(none,())/\SB a₀ kd st'/\pendingOf st'=pendingOf st/\Seg L (arrOf st') lo n/\∀p,p<lo->(arrOf st')[p]?=(arrOf st)[p]?) ?step ?fin ⟨rfl,hB,rfl,?ini,λ_ _=>rfl⟩) ?post)
 case ini =>
  intro p q hq hpq hp hqn
  exact hs p q hq hpq hp (by omega)
 case fin =>
  rintro c st' ⟨e,hB',hp,hs',ho⟩
  refine⟨e,hB',hp,λp q hq hpq hp hqn=>hs' p q hq hpq hp ?_,ho⟩
  omega
 case post =>
  rintro c st' ⟨rfl,hB',hp,hs',ho⟩
  exact wpS_pure (h st' hB' hp hs' ho)
 case step =>
  rintro k c st' hak hkn ⟨rfl,hB',hp,hs',ho⟩
  have hsz:=hB'.size
  have hk':lo+k<(arrOf st').size:=by omega
  have mm:∀(p:Nat) (hp:p<(arrOf st').size),(arrOf st')[p]∈a₀:=λp hp=>hB'.mem hp
  refine wpS_bind (wpS_mono (wpS_forRange (I:=λx c st''=>st''=st'/\∃l r,c=(none,l,r)/\l<=r/\r<=k/\(∀(p:Nat) (hp:lo+p<(arrOf st').size),p<l->L (arrOf st')[lo+k] (arrOf st')[lo+p]=false)/\(∀(p:Nat) (hp:lo+p<(arrOf st').size),r<=p->p<k->L (arrOf st')[lo+k] (arrOf st')[lo+p]=true)/\r-l+x<=k)
   (Q:=λc st''=>st''=st'/\∃l r,c=(none,l,r)/\l<=k/\(∀(p:Nat) (hp:lo+p<(arrOf st').size),p<l->L (arrOf st')[lo+k] (arrOf st')[lo+p]=false)/\(∀(p:Nat) (hp:lo+p<(arrOf st').size),l<=p->p<k->L (arrOf st')[lo+k] (arrOf st')[lo+p]=true)) ?istep
   (λc st'' ⟨e,l,r,e2,q1,q2,q3,q4,q5⟩=>⟨e,l,r,e2,by omega,q3,λp hp h1 h2=>q4 p hp (by omega) h2⟩) ⟨rfl,0,k,rfl,Nat.zero_le _,Nat.le_refl _,λp hp h=>by omega,λp hp h1 h2=>by omega,by omega⟩) ?ipost)
  case istep =>
   rintro x c st'' _ hxk ⟨rfl,l,r,rfl,q1,q2,q3,q4,q5⟩
   dsimp only
   by_cases hge:l>=r
   ·rw[if_pos hge]
    exact wpS_pure ⟨rfl,l,r,rfl,by omega,q3,λp hp h1 h2=>q4 p hp (by omega) h2⟩
   ·rw[if_neg hge]
    have hm:lo+(l+r) / 2<(arrOf st'').size:=by omega
    refine wpS_bind (zCO hA hB' hk' hm ?_)
    cases e:L (arrOf st'')[lo+k] (arrOf st'')[lo+(l+r) / 2] with
    |true =>
     refine wpS_pure ⟨rfl,l,(l+r) / 2,rfl,by omega,by omega,q3,λp hp h1 h2=>?_,by omega⟩
     cases e3:L (arrOf st'')[lo+k] (arrOf st'')[lo+p] with
     |true=>rfl
     |false =>
      rcases Nat.lt_or_eq_of_le h1 with z|z
      ·rw[O.trans _ _ _ (mm _ hm) (mm _ hp) (mm _ hk') (hs' (lo+(l+r) / 2) (lo+p) hp (by omega) (by omega) (by omega)) e3] at e
       cases e
      ·subst z;rw[e] at e3;cases e3
    |false =>
     refine wpS_pure ⟨rfl,(l+r) / 2+1,r,rfl,by omega,q2,λp hp h1=>?_,q4,by omega⟩
     rcases Nat.lt_or_eq_of_le (show p<=(l+r) / 2 by omega) with z|z
     ·exact O.trans _ _ _ (mm _ hp) (mm _ hm) (mm _ hk') (hs' (lo+p) (lo+(l+r) / 2) hm (by omega) (by omega) (by omega)) e
     ·subst z;exact e
  case ipost =>
   rintro c st'' ⟨rfl,l,r,rfl,hl,q3,q4⟩
   show wpS _ _ _ _ (do moveDown' (lo+k) (lo+l);pure (ForInStep.yield (none,()))) _ _
   rw[moveDown'_eq]
   have bu:=getElem?_bubble (xs:=arrOf st'') hk' (lo+k-(lo+l)) (by omega)
   refine wpS_bind (wpS_modify (wpS_pure ⟨rfl,hB'.setArr (bubble_perm _ _ _),hp,?_,λp hp2=>?_⟩))
   ·show Seg L (bubble (arrOf st'') (lo+k) (lo+k-(lo+l))) lo (k+1)
    have hq':=seg_iff.mp hs'
    rw[seg_iff]
    intro p q x y hpq hlp hqn ex ey
    rw[bu] at ex ey
    rw[show lo+k-(lo+k-(lo+l))=lo+l by omega] at ex ey
    by_cases hp1:p=lo+l
    ·rw[if_pos hp1] at ex
     rw[if_neg (by omega),if_pos (by omega)] at ey
     obtain⟨z1,rfl⟩:=Array.getElem?_eq_some_iff.mp ex
     obtain⟨z2,rfl⟩:=Array.getElem?_eq_some_iff.mp ey
     have z:=q4 (q-1-lo) (by omega) (by omega) (by omega)
     have e:lo+(q-1-lo)=q-1:=by omega
     simp only[e] at z
     exact O.asym _ _ (mm _ z1) (mm _ z2) z
    ·rw[if_neg hp1] at ex
     by_cases hq1:q=lo+l
     ·rw[if_pos hq1] at ey
      rw[if_neg (by omega)] at ex
      obtain⟨z1,rfl⟩:=Array.getElem?_eq_some_iff.mp ex
      obtain⟨z2,rfl⟩:=Array.getElem?_eq_some_iff.mp ey
      have z:=q3 (p-lo) (by omega) (by omega)
      have e:lo+(p-lo)=p:=by omega
      simp only[e] at z
      exact z
     ·rw[if_neg hq1] at ey
      by_cases hp2:lo+l<p/\p<=lo+k
      ·rw[if_pos hp2] at ex
       rw[if_pos (by omega)] at ey
       exact hq' (p-1) (q-1) x y (by omega) (by omega) (by omega) ex ey
      ·rw[if_neg hp2] at ex
       by_cases hq2:lo+l<q/\q<=lo+k
       ·rw[if_pos hq2] at ey
        exact hq' p (q-1) x y (by omega) (by omega) (by omega) ex ey
       ·rw[if_neg hq2] at ey
        exact hq' p q x y (by omega) (by omega) (by omega) ex ey
   ·show(bubble (arrOf st'') (lo+k) (lo+k-(lo+l)))[p]?=_
    rw[bu,if_neg (by omega),if_neg (by omega)]
    exact ho p hp2
end
section
variable{L:Keyed->Keyed->Bool}{a a₀:Array Keyed}
def Desc(L:Keyed->Keyed->Bool)(a:Array Keyed)(i n:Nat):Prop:=∀p q x y,p<q->i<=p->q<i+n->a[p]?=some x->a[q]?=some y->L x y=false
def Blk(L:Keyed->Keyed->Bool)(a:Array Keyed)(i j:Nat):Prop:=∀p q x y,i<=p->p<j->i<=q->q<j->a[p]?=some x->a[q]?=some y->L x y=false
theorem mir{xs:Array Keyed}{i j:Nat}(hj:j<=xs.size)(k:Nat):(mirror xs i j ((j-i) / 2))[k]?=if i<=k/\k<j then xs[i+j-1-k]? else xs[k]?:=getElem?_mirror_all hj k
theorem Desc.blk{lo n i:Nat}(d:Desc L a lo n)(hi:lo<=i)(hj:lo+n<=a.size)(b:Blk L a i (lo+n)):Desc L (mirror a i (lo+n) ((lo+n-i) / 2)) lo n:=by
 intro p q x y hpq hp hq ex ey
 rw[mir hj] at ex ey
 by_cases hp1:i<=p/\p<lo+n
 ·rw[if_pos hp1] at ex
  rw[if_pos (by lia)] at ey
  exact b _ _ x y (by lia) (by lia) (by lia) (by lia) ex ey
 ·rw[if_neg hp1] at ex
  by_cases hq1:i<=q/\q<lo+n
  ·rw[if_pos hq1] at ey
   exact d p _ x y (by lia) hp (by lia) ex ey
  ·rw[if_neg hq1] at ey
   exact d p q x y hpq hp hq ex ey
theorem Desc.rev{lo n:Nat}(d:Desc L a lo n)(hj:lo+n<=a.size):Seg L (mirror a lo (lo+n) ((lo+n-lo) / 2)) lo n:=by
 rw[seg_iff]
 intro p q x y hpq hp hq ex ey
 rw[mir hj] at ex ey
 rw[if_pos (by lia)] at ex ey
 exact d _ _ y x (by lia) (by lia) (by lia) ey ex
theorem Seg.more{lo n:Nat}(O:Ord L a₀)(hm:∀x∈a,x∈a₀)(s:Seg L a lo n)(h1:1<=n)(hs:lo+n<a.size)(h:L a[lo+n] (a[lo+n-1]'(by lia))=false):Seg L a lo (n+1):=by
 intro p q hq hpq hp hqn
 rcases Nat.lt_or_eq_of_le (show q<=lo+n by lia) with z|z
 ·exact s p q hq hpq hp z
 ·subst z
  rcases Nat.lt_or_eq_of_le (show p<=lo+n-1 by lia) with z|z
  ·exact O.trans _ _ _ (hm _ (Array.getElem_mem _)) (hm _ (Array.getElem_mem _)) (hm _ (Array.getElem_mem hs)) (s p (lo+n-1) (by lia) z hp (by lia)) h
  ·subst z;exact h
theorem Desc.snoc{lo n:Nat}{y:Keyed}(d:Desc L a lo n)(h:∀p z,lo<=p->p<lo+n->a[p]?=some z->L z y=false)(e:a[lo+n]?=some y):Desc L a lo (n+1):=λp q x y' hpq hp hq ex ey=>by
 rcases Nat.lt_or_eq_of_le (show q<=lo+n by lia) with z|z
 ·exact d p q x y' hpq hp z ex ey
 ·subst z
  rw[e] at ey
  cases ey
  exact h p x hp (by lia) ex
theorem zPC{lo n i:Nat}{P:Keyed->Prop}(hj:lo+n<=a.size)(hi:lo<=i)(h:∀p z,lo<=p->p<lo+n->a[p]?=some z->P z):∀p z,lo<=p->p<lo+n->(mirror a i (lo+n) ((lo+n-i) / 2))[p]?=some z->P z:=λp z h1 h2 e=>by
 rw[mir hj] at e
 split at e
 ·exact h _ z (by lia) (by lia) e
 ·exact h p z h1 h2 e
theorem Blk.mir{i j:Nat}(b:Blk L a i j)(hj:j<=a.size):Blk L (mirror a i j ((j-i) / 2)) i j:=λp q x y h1 h2 h3 h4 ex ey=>by
 rw[TS.mir hj,if_pos ⟨h1,h2⟩] at ex
 rw[TS.mir hj,if_pos ⟨h3,h4⟩] at ey
 exact b _ _ x y (by lia) (by lia) (by lia) (by lia) ex ey
theorem Blk.one{i:Nat}(O:Ord L a₀)(hm:∀x∈a,x∈a₀):Blk L a i (i+1):=λp q x y h1 h2 h3 h4 ex ey=>by
 have e1:p=i:=by lia
 have e2:q=i:=by lia
 subst e1;subst e2
 rw[ex] at ey
 cases ey
 exact O.refl (hm _ (Array.mem_of_getElem? ex))
theorem Seg.one{lo:Nat}:Seg L a lo 1:=λp q hq hpq hp hqn=>by lia
end
section
variable{prog:Program}{w:World}{A:Around}{E:Value->Shared->Prop}{s:Shared}{a₀:Array Keyed}{kd:SortKind}{L:Keyed->Keyed->Bool}
def KpO(a₀:Array Keyed)(kd:SortKind)(lo:Nat)(st st':SortSt):Prop:=Kp a₀ kd st st'/\∀p,p<lo->(arrOf st')[p]?=(arrOf st)[p]?
theorem KpO.rev{st st':SortSt}{lo i j:Nat}(h:KpO a₀ kd lo st st')(hi:lo<=i)(hj:j<=a₀.size):KpO a₀ kd lo st (setArr st' (mirror (arrOf st') i j ((j-i) / 2))):=by
 refine⟨h.1.rev,λp hp=>?_⟩
 show(mirror (arrOf st') i j ((j-i) / 2))[p]?=_
 rw[mir (by rw[h.1.1.size];exact hj),if_neg (by lia)]
 exact h.2 p hp
theorem yC2{α:Type}{T:StateT SortSt Sem α}{M:Model}{A:Around}{E:Value->Shared->Prop}{s:Shared}{Q:α->SortSt->Prop}{goal:Prop}(P:SortSt->Prop)(h1:(∀st,P st->wpS M A E s T Q st)->goal)(h2:∀st,P st->wpS M A E s T Q st):goal:=h1 h2
theorem zJI{st:SortSt}{lo nrem:Nat}{Q:Option Nat->SortSt->Prop}(hA:zJF prog w A s kd a₀ L)(O:Ord L a₀)(hn:lo+nrem<=a₀.size)(h1:1<=nrem)(hB:SB a₀ kd st)
  (h:∀m st',KpO a₀ kd lo st st'->1<=m->m<=nrem->Seg L (arrOf st') lo m->Q (some m) st'):wpS (model prog w) A E s (countRun' lo nrem) Q st:=by
 have k0:KpO a₀ kd lo st st:=⟨⟨hB,rfl⟩,λ_ _=>rfl⟩
 have hsz:=hB.size
 have mm:∀x∈arrOf st,x∈a₀:=λx hx=>hB.perm.mem_iff.mp hx
 refine wpS_bind (wpS_mono (wpS_forRange (I:=λx c st'=>st'=st/\c=(none,x)/\Seg L (arrOf st) lo x) (Q:=λc st'=>st'=st/\∃n,c=(none,n)/\1<=n/\n<=nrem/\Seg L (arrOf st) lo n/\(n=nrem\/∃(hx:lo+n<(arrOf st).size),L (arrOf st)[lo+n] ((arrOf st)[lo+n-1]'(by lia))=true)) ?s1 ?f1 ⟨rfl,rfl,Seg.one⟩) ?p1)
 case f1 =>
  rintro c st' ⟨rfl,rfl,sg⟩
  have e:(if 1<=nrem then nrem else 1)=nrem:=if_pos h1
  exact⟨rfl,_,rfl,by lia,by lia,sg,.inl (by lia)⟩
 case s1 =>
  rintro x c st' hax hxn ⟨rfl,rfl,sg⟩
  have hx1:lo+x<(arrOf st').size:=by lia
  refine wpS_bind (zCO hA hB hx1 (show lo+x-1<(arrOf st').size by lia) ?_)
  cases e:L (arrOf st')[lo+x] ((arrOf st')[lo+x-1]'(by lia)) with
  |true=>exact wpS_pure ⟨rfl,x,rfl,hax,by lia,sg,.inr ⟨hx1,e⟩⟩
  |false=>exact wpS_pure ⟨rfl,rfl,sg.more O mm hax hx1 e⟩
 case p1 =>
  rintro c st' ⟨rfl,n,rfl,hn1,hn2,sg,hor⟩
  refine zAM (λq=>?_) (λq=>?_)
  ·exact wpS_pure (h n _ k0 hn1 hn2 sg)
  have q':¬(n=nrem):=λz=>q (beq_iff_eq.mpr z)
  obtain⟨hx1,hless⟩:∃(hx:lo+n<(arrOf st').size),L (arrOf st')[lo+n] ((arrOf st')[lo+n-1]'(by lia))=true:=by
   rcases hor with z|z
   ·exact absurd z q'
   ·exact z
  -- the first n are alike,and the next is below
  have start:∀st1,KpO a₀ kd lo st' st1->Blk L (arrOf st1) lo (lo+n)->(∀p x,lo<=p->p<lo+n->(arrOf st1)[p]?=some x->L x (arrOf st')[lo+n]=false)->(arrOf st1)[lo+n]?=(arrOf st')[lo+n]?->Desc L (arrOf st1) lo (n+1):=λst1 k1 bl hall he p q x y hpq hp hq ex ey=>by
   rcases Nat.lt_or_eq_of_le (show q<=lo+n by lia) with z|z
   ·exact bl p q x y hp (by lia) (by lia) z ex ey
   ·subst z
    rw[he,getElem?_pos (arrOf st') (lo+n) hx1] at ey
    cases ey
    exact hall p x hp (by lia) ex
  have bl0:∀(hq0:n=1\/L ((arrOf st')[lo]'(by lia)) ((arrOf st')[lo+n-1]'(by lia))=false),Blk L (arrOf st') lo (lo+n):=λhq0 p q x y hp hp2 hq hq2 ex ey=>by
   obtain⟨z1,rfl⟩:=Array.getElem?_eq_some_iff.mp ex
   obtain⟨z2,rfl⟩:=Array.getElem?_eq_some_iff.mp ey
   have le:∀(u v:Nat) (hv:v<(arrOf st').size) (huv:u<=v),lo<=u->v<lo+n->L (arrOf st')[v] ((arrOf st')[u]'(by lia))=false:=λu v hv huv h3 h4=>by
    rcases Nat.lt_or_eq_of_le huv with z|z
    ·exact sg u v hv z h3 h4
    ·subst z;exact O.refl (mm _ (Array.getElem_mem _))
   rcases hq0 with z|z
   ·have e1:p=lo:=by lia
    have e2:q=lo:=by lia
    subst e1;subst e2
    exact O.refl (mm _ (Array.getElem_mem _))
   ·-- y<=last<=first<=x turned: y at most x
    have a1:=le q (lo+n-1) (by lia) (by lia) hq (by lia)
    have a2:=le lo p z1 hp (Nat.le_refl _) hp2
    exact O.trans _ _ _ (mm _ (Array.getElem_mem z2)) (mm _ (Array.getElem_mem (show lo<(arrOf st').size by lia))) (mm _ (Array.getElem_mem z1))
     (O.trans _ _ _ (mm _ (Array.getElem_mem z2)) (mm _ (Array.getElem_mem (show lo+n-1<(arrOf st').size by lia))) (mm _ (Array.getElem_mem (show lo<(arrOf st').size by lia))) a1 z) a2
  have all0:Blk L (arrOf st') lo (lo+n)->∀p x,lo<=p->p<lo+n->(arrOf st')[p]?=some x->L x (arrOf st')[lo+n]=false:=λbl p x hp hp2 ex=>by
   obtain⟨z1,rfl⟩:=Array.getElem?_eq_some_iff.mp ex
   have a1:=O.asym _ _ (mm _ (Array.getElem_mem hx1)) (mm _ (Array.getElem_mem (show lo+n-1<(arrOf st').size by lia))) hless
   have a2:=bl p (lo+n-1) _ _ hp hp2 (by lia) (by lia) (getElem?_pos (arrOf st') p z1) (getElem?_pos (arrOf st') (lo+n-1) (by lia))
   exact O.trans _ _ _ (mm _ (Array.getElem_mem hx1)) (mm _ (Array.getElem_mem (show lo+n-1<(arrOf st').size by lia))) (mm _ (Array.getElem_mem z1)) a1 a2
  refine yC2 (λst1=>KpO a₀ kd lo st' st1/\Desc L (arrOf st1) lo (n+1)) (λK=>by
   refine zAM (λq1=>?_) (λq1=>?_)
   case refine_2=>exact K _ ⟨k0,start _ k0 (bl0 (.inl (by lia))) (all0 (bl0 (.inl (by lia)))) rfl⟩
   case refine_1 =>
    refine wpS_bind (zCO hA hB (show lo<(arrOf st').size by lia) (show lo+n-1<(arrOf st').size by lia) ?_)
    cases eq1:L ((arrOf st')[lo]'(by lia)) ((arrOf st')[lo+n-1]'(by lia))
    case true=>exact wpS_pure (h n _ k0 hn1 hn2 sg)
    refine wpS_bind (zHM ?_)
    have bl:=bl0 (.inr eq1)
    have k1:=k0.rev (i:=lo) (j:=lo+n) (Nat.le_refl _) (by lia)
    exact K _ ⟨k1,start _ k1 (Blk.mir (i:=lo) (j:=lo+n) bl (by lia)) (zPC (by lia) (Nat.le_refl _) (all0 bl)) (by
     show(mirror (arrOf st') lo (lo+n) ((lo+n-lo) / 2))[lo+n]?=_
     rw[mir (by lia),if_neg (by lia)])⟩) ?_
  clear start bl0 all0
  rintro st1 ⟨k1,D1⟩
  refine wpS_bind (wpS_lift (wpAny_rule ⟨rfl,?_⟩))
  have mk:∀st2,KpO a₀ kd lo st' st2->∀x∈arrOf st2,x∈a₀:=λst2 k x hx=>k.1.1.perm.mem_iff.mp hx
  refine wpS_bind (wpS_mono (wpS_forRange (I:=λx c st2=>∃neq,c=(none,x,neq)/\KpO a₀ kd lo st' st2/\Desc L (arrOf st2) lo x/\neq+1<=x/\Blk L (arrOf st2) (lo+x-(neq+1)) (lo+x))
   (Q:=λc st2=>∃m neq,c=(none,m,neq)/\KpO a₀ kd lo st' st2/\n+1<=m/\m<=nrem/\Desc L (arrOf st2) lo m/\neq+1<=m/\Blk L (arrOf st2) (lo+m-(neq+1)) (lo+m)) ?s2 ?f2 ⟨0,rfl,k1,D1,by lia,Blk.one O (mk _ k1)⟩) ?p2)
  case f2 =>
   rintro c st2 ⟨neq,rfl,k,D,hne,bk⟩
   exact⟨_,neq,rfl,k,by lia,by lia,D,hne,bk⟩
  case s2 =>
   rintro x c st2 hax hxn ⟨neq,rfl,k,D,hne,bk⟩
   have hz2:=k.1.1.size
   have m2:=mk _ k
   have hx2:lo+x<(arrOf st2).size:=by lia
   have hx3:lo+x-1<(arrOf st2).size:=by lia
   have all1:L (arrOf st2)[lo+x-1] (arrOf st2)[lo+x]=false->∀p z,lo<=p->p<lo+x->(arrOf st2)[p]?=some z->L z (arrOf st2)[lo+x]=false:=λe p z hp hp2 ez=>by
    obtain⟨z1,rfl⟩:=Array.getElem?_eq_some_iff.mp ez
    rcases Nat.lt_or_eq_of_le (show p<=lo+x-1 by lia) with u|u
    ·exact O.trans _ _ _ (m2 _ (Array.getElem_mem hx2)) (m2 _ (Array.getElem_mem hx3)) (m2 _ (Array.getElem_mem z1)) e (D p (lo+x-1) _ _ u hp (by lia) ez (getElem?_pos (arrOf st2) (lo+x-1) hx3))
    ·subst u;exact e
   refine wpS_bind (zCO hA k.1.1 hx2 hx3 ?_)
   cases e:L (arrOf st2)[lo+x] (arrOf st2)[lo+x-1] with
   |true =>
    have al:=all1 (O.asym _ _ (m2 _ (Array.getElem_mem hx2)) (m2 _ (Array.getElem_mem hx3)) e)
    simp only[if_true]
    refine zAM (λ_=>?_) (λ_=>?_)
    ·have k':=k.rev (i:=lo+x-(neq+1)) (j:=lo+x) (by lia) (by lia)
     refine wpS_bind (zHM (wpS_pure ⟨0,rfl,k',?_,by lia,Blk.one O (mk _ k')⟩))
     refine Desc.snoc (y:=(arrOf st2)[lo+x]) (D.blk (by lia) (by lia) bk) (zPC (by lia) (by lia) al) ?_
     show(mirror (arrOf st2) (lo+x-(neq+1)) (lo+x) ((lo+x-(lo+x-(neq+1))) / 2))[lo+x]?=_
     rw[mir (by lia),if_neg (by lia)]
     exact getElem?_pos (arrOf st2) (lo+x) hx2
    ·exact wpS_pure ⟨0,rfl,k,D.snoc al (getElem?_pos (arrOf st2) (lo+x) hx2),by lia,Blk.one O m2⟩
   |false =>
    refine wpS_bind (zCO hA k.1.1 hx3 hx2 ?_)
    cases e2:L (arrOf st2)[lo+x-1] (arrOf st2)[lo+x] with
    |true=>exact wpS_pure ⟨x,neq,rfl,k,hax,by lia,D,hne,bk⟩
    |false =>
     have al:=all1 e2
     refine wpS_pure ⟨neq+1,rfl,k,D.snoc al (getElem?_pos (arrOf st2) (lo+x) hx2),by lia,λp q u v h1' h2' h3' h4' eu ev=>?_⟩
     by_cases hp:p<lo+x
     ·by_cases hq:q<lo+x
      ·exact bk p q u v (by lia) hp (by lia) hq eu ev
      ·have e3:q=lo+x:=by lia
       subst e3
       rw[getElem?_pos (arrOf st2) (lo+x) hx2] at ev
       cases ev
       exact al p u (by lia) hp eu
     ·have e3:p=lo+x:=by lia
      subst e3
      rw[getElem?_pos (arrOf st2) (lo+x) hx2] at eu
      cases eu
      by_cases hq:q<lo+x
      ·obtain⟨z1,rfl⟩:=Array.getElem?_eq_some_iff.mp ev
       have a1:=bk (lo+x-1) q _ _ (by lia) (by lia) (by lia) hq (getElem?_pos (arrOf st2) (lo+x-1) hx3) ev
       exact O.trans _ _ _ (m2 _ (Array.getElem_mem z1)) (m2 _ (Array.getElem_mem hx3)) (m2 _ (Array.getElem_mem hx2)) a1 e
      ·have e4:q=lo+x:=by lia
       subst e4
       rw[getElem?_pos (arrOf st2) (lo+x) hx2] at ev
       cases ev
       exact O.refl (m2 _ (Array.getElem_mem hx2))
  case p2 =>
   rintro c st2 ⟨m,neq,rfl,k2,hm1,hm2,D,hne,bk⟩
   have hz2:=k2.1.1.size
   dsimp only
   refine yC2 (λst1=>KpO a₀ kd lo st' st1/\Desc L (arrOf st1) lo m) (λK=>by
    refine zAM (λ_=>?_) (λ_=>?_)
    case refine_2=>exact K _ ⟨k2,D⟩
    case refine_1=>exact wpS_bind (zHM (K _ ⟨k2.rev (i:=lo+m-(neq+1)) (j:=lo+m) (by lia) (by lia),D.blk (i:=lo+m-(neq+1)) (by lia) (by lia) bk⟩))) ?_
   clear k2 D bk hz2
   rintro st2 ⟨k2,D⟩
   have hz3:=k2.1.1.size
   refine wpS_bind (zHM ?_)
   have sg3:=Desc.rev D (by first|exact Nat.le_trans (by lia) (Nat.le_of_eq hz3.symm)|lia)
   have k3:=k2.rev (i:=lo) (j:=lo+m) (Nat.le_refl _) (by lia)
   refine wpS_bind (wpS_mono (wpS_forRange (I:=λx c st3=>KpO a₀ kd lo st' st3/\c=(none,x)/\Seg L (arrOf st3) lo x) (Q:=λc st3=>KpO a₀ kd lo st' st3/\∃n,c=(none,n)/\1<=n/\n<=nrem/\Seg L (arrOf st3) lo n) ?s3 ?f3 ⟨k3,rfl,sg3⟩) ?p3)
   case f3 =>
    rintro c st3 ⟨k,rfl,sg⟩
    exact⟨k,_,rfl,by lia,by lia,sg⟩
   case s3 =>
    rintro x c st3 hax hxn ⟨k,rfl,sg⟩
    have hz4:=k.1.1.size
    have hx2:lo+x<(arrOf st3).size:=by lia
    refine wpS_bind (zCO hA k.1.1 hx2 (show lo+x-1<(arrOf st3).size by lia) ?_)
    cases e:L (arrOf st3)[lo+x] ((arrOf st3)[lo+x-1]'(by lia)) with
    |true=>exact wpS_pure ⟨k,x,rfl,by lia,by lia,sg⟩
    |false=>exact wpS_pure ⟨k,rfl,sg.more O (mk _ k) (by lia) hx2 e⟩
   case p3 =>
    rintro c st3 ⟨k,z,rfl,hz1,hz2,sg⟩
    exact wpS_pure (h z _ k hz1 hz2 sg)
end
section
variable{L:Keyed->Keyed->Bool}{x x':Array Keyed}
theorem Seg.keep{i n:Nat}(s:Seg L x i n)(h:∀q,i<=q->q<i+n->x'[q]?=x[q]?):Seg L x' i n:=by
 rw[seg_iff] at s ⊢
 intro p q u v hpq hp hq eu ev
 rw[h p hp (by lia)] at eu
 rw[h q (by lia) hq] at ev
 exact s p q u v hpq hp hq eu ev
def CovO(L:Keyed->Keyed->Bool)(x:Array Keyed):List Run->Nat->Nat->Prop
 |[],a,b=>a=b
 |(st,len,_)::r,a,b=>st=a/\1<=len/\Seg L x a len/\CovO L x r (a+len) b
theorem CovO.le:∀{p:List Run} {a b:Nat},CovO L x p a b->a<=b
 |[],_,_,h=>Nat.le_of_eq h
 |(_,len,_)::r,a,b,h=>by have:=CovO.le h.2.2.2;lia
theorem CovO.len:∀{p:List Run} {a b:Nat},CovO L x p a b->p.length+a<=b
 |[],_,_,h=>by have h:_=_:=h;simp;lia
 |(_,len,_)::r,a,b,h=>by have:=CovO.len h.2.2.2;have:=h.2.1;rw[List.length_cons];lia
theorem CovO.keepIn:∀{p:List Run} {a b:Nat},CovO L x p a b->(∀q,a<=q->q<b->x'[q]?=x[q]?)->CovO L x' p a b
 |[],_,_,h,_=>h
 |(_,len,_)::r,a,b,h,hk=>by
  have:=CovO.le h.2.2.2
  exact⟨h.1,h.2.1,h.2.2.1.keep λq h1 h2=>hk q h1 (by lia),CovO.keepIn h.2.2.2 λq h1 h2=>hk q (by lia) h2⟩
theorem CovO.keep{p:List Run}{b:Nat}(h:CovO L x p 0 b)(hk:∀q,q<b->x'[q]?=x[q]?):CovO L x' p 0 b:=h.keepIn λq _ hq=>hk q hq
theorem CovO.snoc:∀{p:List Run} {a b n k:Nat},CovO L x p a b->1<=n->Seg L x b n->CovO L x (p++[(b,n,k)]) a (b+n)
 |[],a,b,n,k,h,hn,s=>by
  have h:a=b:=h
  subst h
  exact⟨rfl,hn,s,rfl⟩
 |(_,len,_)::r,a,b,n,k,h,hn,s=>⟨h.1,h.2.1,h.2.2.1,CovO.snoc h.2.2.2 hn s⟩
theorem CovO.modify:∀{p:List Run} {a b i pw:Nat},CovO L x p a b->CovO L x (p.modify i λ(st,len,_)=>(st,len,pw)) a b
 |[],a,b,i,pw,h=>by simpa using h
 |(_,len,_)::r,a,b,0,pw,h=>⟨h.1,h.2.1,h.2.2.1,h.2.2.2⟩
 |(_,len,_)::r,a,b,i+1,pw,h=>by
  rw[List.modify_succ_cons]
  exact⟨h.1,h.2.1,h.2.2.1,CovO.modify h.2.2.2⟩
theorem CovO.last{p:List Run}{b:Nat}(h:CovO L x p 0 b)(hl:p.length<=1):Seg L x 0 b:=by
 match p,h,hl with
 |[],h,_ =>
  have h:0=b:=h
  subst h
  intro p q hq hpq hp hqn
  lia
 |[(st,len,k)],h,_ =>
  obtain⟨_,_,s,e⟩:=h
  have e:0+len=b:=e
  have e':b=len:=by lia
  subst e'
  exact s
theorem CovO.at:∀{p:List Run} {a b i sa na pa sb nb pb:Nat},CovO L x p a b->p[i]?=some (sa,na,pa)->p[i+1]?=some (sb,nb,pb) ->
  (1<=na/\1<=nb/\sb=sa+na/\sb+nb<=b/\a<=sa)/\Seg L x sa na/\Seg L x sb nb /\
  ((∀q,q<sa\/sa+(na+nb)<=q->x'[q]?=x[q]?)->Seg L x' sa (na+nb)->CovO L x' ((p.set i (sa,na+nb,pa)).eraseIdx (i+1)) a b)
 |[],a,b,i,_,_,_,_,_,_,h,e,_=>by simp at e
 |[y],a,b,0,_,_,_,_,_,_,h,e,e2=>by simp at e2
 |y::z::r,a,b,0,sa,na,pa,sb,nb,pb,h,e,e2=>by
  simp at e e2
  subst e;subst e2
  obtain⟨h1,h2,h3,h4,h5,h6,h7⟩:=h
  have:=h7.le
  refine⟨⟨h2,h5,by lia,by lia,by lia⟩,by rw[h1];exact h3,by rw[h4];exact h6,λhk s=>?_⟩
  show CovO L x' ((sa,na+nb,pa)::r) a b
  refine⟨h1,by lia,by rw[<-h1];exact s,?_⟩
  rw[<-Nat.add_assoc]
  exact h7.keepIn λq h8 _=>hk q (by lia)
 |(_,len,_)::r,a,b,i+1,sa,na,pa,sb,nb,pb,h,e,e2=>by
  obtain⟨⟨q1,q2,q3,q4,q5⟩,s1,s2,q6⟩:=CovO.at h.2.2.2 (by simpa using e) (by simpa using e2)
  exact⟨⟨q1,q2,q3,q4,by lia⟩,s1,s2,λhk s=>⟨h.1,h.2.1,h.2.2.1.keep λq h8 h9=>hk q (by lia),q6 hk s⟩⟩
end
section
variable{prog:Program}{w:World}{A:Around}{E:Value->Shared->Prop}{s:Shared}{a₀:Array Keyed}{kd:SortKind}{L:Keyed->Keyed->Bool}
structure SRO(L:Keyed->Keyed->Bool)(a₀:Array Keyed)(kd:SortKind)(lo:Nat)(st:SortSt):Prop where
 sb:SB a₀ kd st
 cov:CovO L (arrOf st) (pendingOf st).toList 0 lo
 le:lo<=a₀.size
theorem zEO{st:SortSt}{i lo:Nat}{Q:Bool->SortSt->Prop}(hA:zJF prog w A s kd a₀ L)(O:Ord L a₀)(R:SRO L a₀ kd lo st)(hi:i+1<(pendingOf st).size)
  (h:∀st',SRO L a₀ kd lo st'->(pendingOf st').size+1=(pendingOf st).size->(∀q,lo<=q->(arrOf st')[q]?=(arrOf st)[q]?)->Q true st') :
  wpS (model prog w) A E s (mergeAt' i) Q st:=by
 have hi0:i<(pendingOf st).size:=by lia
 obtain⟨⟨sa,na,pa⟩,e1⟩:∃r:Run,(pendingOf st)[i]?=some r:=⟨_,getElem?_pos _ i hi0⟩
 obtain⟨⟨sb,nb,pb⟩,e2⟩:∃r:Run,(pendingOf st)[i+1]?=some r:=⟨_,getElem?_pos _ (i+1) hi⟩
 obtain⟨⟨q1,q2,q3,q4,q5⟩,s1,s2,_⟩:=R.cov.at (x':=arrOf st) (i:=i) (by rw[Array.getElem?_toList];exact e1) (by rw[Array.getElem?_toList];exact e2)
 refine zK3 hA O R.sb e1 e2 q1 q2 q3 (Nat.le_trans q4 R.le) s1 s2 λst' hB hp sg hk=>?_
 have hz1:=hB.size
 have hz2:=R.sb.size
 have hk':∀q,q<sa\/sa+(na+nb)<=q->(arrOf st')[q]?=(arrOf st)[q]?:=λq hq=>by
  by_cases z:q<a₀.size
  ·rw[getElem?_pos (arrOf st') q (by lia),getElem?_pos (arrOf st) q (by lia),hk q (by lia) (by lia) hq]
  ·rw[getElem?_neg (arrOf st') q (by lia),getElem?_neg (arrOf st) q (by lia)]
 have hz:i+1<((pendingOf st).setIfInBounds i (sa,na+nb,pa)).size:=by rw[Array.size_setIfInBounds];exact hi
 refine h st' ⟨hB,?_,R.le⟩ ?_ λq hq=>hk' q (.inr (by lia))
 ·rw[hp,Array.eraseIdxIfInBounds,dif_pos hz,Array.toList_eraseIdx,Array.toList_setIfInBounds]
  exact(R.cov.at (x':=arrOf st') (i:=i) (by rw[Array.getElem?_toList];exact e1) (by rw[Array.getElem?_toList];exact e2)).2.2.2 hk' sg
 ·rw[hp,Array.eraseIdxIfInBounds,dif_pos hz,Array.size_eraseIdx,Array.size_setIfInBounds]
  lia
theorem yDU{α:Type}{T:Nat->StateT SortSt Sem α}{M:Model}{A:Around}{E:Value->Shared->Prop}{s:Shared}{Q:α->SortSt->Prop}{goal:Prop}(P:Nat->SortSt->Prop)(h1:(∀n st,P n st->wpS M A E s (T n) Q st)->goal)(h2:∀n st,P n st->wpS M A E s (T n) Q st):goal:=h1 h2
theorem zJJ{st:SortSt}{Q:Unit->SortSt->Prop}(hA:zJF prog w A s kd a₀ L)(O:Ord L a₀)(hB:SB a₀ kd st)(hp:pendingOf st=#[])
  (h:∀st',SB a₀ kd st'->Seg L (arrOf st') 0 a₀.size->Q () st'):wpS (model prog w) A E s sortRuns' Q st:=by
 rw[sortRuns'_eq]
 refine wpS_bind (wpS_get ?_)
 dsimp only
 rw[hB.size]
 refine wpS_bind (wpS_mono (wpS_forRange (I:=λx c st'=>∃lo,c=(none,lo)/\SRO L a₀ kd lo st'/\x<=lo)
  (Q:=λc st'=>∃lo,c=(none,lo)/\SRO L a₀ kd lo st'/\a₀.size<=lo) ?step (λc st' ⟨lo,e,R,hx⟩=>⟨lo,e,R,by lia⟩) ⟨0,rfl,⟨hB,by rw[hp];rfl,Nat.zero_le _⟩,Nat.le_refl _⟩) ?post)
 case step =>
  rintro x c st' _ hx ⟨lo,rfl,R,hxl⟩
  dsimp only
  refine zAM (λq=>?_) (λq=>?_)
  ·exact wpS_pure ⟨lo,rfl,R,q⟩
  refine wpS_bind (zJI hA O (by lia) (by lia) R.sb λm st2 k2 hm1 hm2 sg2=>?_)
  have R2:SRO L a₀ kd lo st2:=⟨k2.1.1,by rw[k2.1.2];exact R.cov.keep λq hq=>k2.2 q hq,R.le⟩
  dsimp only
  refine yDU (λm st3=>SRO L a₀ kd lo st3/\Seg L (arrOf st3) lo m/\1<=m/\lo+m<=a₀.size) (λK=>by
   refine zAM (λhlt=>?_) (λhlt=>?_)
   case refine_2 =>
    have hP:SRO L a₀ kd lo st2/\Seg L (arrOf st2) lo m/\1<=m/\lo+m<=a₀.size:=⟨R2,sg2,hm1,by lia⟩
    revert hP
    generalize m=m'
    exact λhP=>K m' _ hP
   case refine_1 =>
    refine wpS_bind (wpS_lift (wpAny_rule ⟨rfl,?_⟩))
    refine wpS_bind (zF9 hA O (by lia) (by lia) (by lia) R2.sb sg2 λst3 hB3 hp3 sg3 ho3=>?_)
    exact K _ _ ⟨⟨hB3,by rw[hp3];exact R2.cov.keep λq hq=>ho3 q hq,R2.le⟩,sg3,by lia,by lia⟩) ?_
  clear sg2 k2 R2 hm1 hm2
  rintro m st3 ⟨R3,sg3,hm1,hm2⟩
  refine wpS_bind (wpS_get ?_)
  split
  ·rename_i s1 n1 p1 hb
   refine wpS_bind (wpS_mono (wpS_forRange (I:=λ_ c st'=>c=(none,())/\SRO L a₀ kd lo st'/\Seg L (arrOf st') lo _) (Q:=λc st'=>c=(none,())/\SRO L a₀ kd lo st'/\Seg L (arrOf st') lo _) ?st1 (λ_ _ h=>h) ⟨rfl,R3,sg3⟩) ?po1)
   case po1 =>
    rintro c st4 ⟨rfl,R4,sg4⟩
    refine wpS_bind (wpS_modify (wpS_bind (wpS_modify (wpS_pure ⟨_,rfl,⟨⟨R4.sb.perm,R4.sb.kind,R4.sb.failed⟩,?_,by lia⟩,by lia⟩))))
    show CovO L (arrOf st4) (Array.push _ _).toList 0 _
    rw[Array.toList_push]
    refine CovO.snoc ?_ (by lia) sg4
    show CovO L (arrOf st4) (Array.modify _ _ _).toList 0 lo
    rw[Array.toList_modify]
    exact R4.cov.modify
   case st1 =>
    rintro y c st4 _ _ ⟨rfl,R4,sg4⟩
    refine wpS_bind (wpS_get ?_)
    by_cases hz:(pendingOf st4).size>1
    ·rw[if_pos hz,getElem?_pos (pendingOf st4) ((pendingOf st4).size-2) (by lia)]
     refine zAM (λ_=>?_) (λ_=>?_)
     ·exact wpS_pure ⟨rfl,R4,sg4⟩
     refine wpS_bind (zEO hA O R4 (by lia) λst5 R5 _ ho5=>?_)
     exact wpS_pure ⟨rfl,R5,sg4.keep λq hq _=>ho5 q hq⟩
    ·rw[if_neg hz]
     exact wpS_pure ⟨rfl,R4,sg4⟩
  ·refine wpS_bind (wpS_modify (wpS_pure ⟨_,rfl,⟨⟨R3.sb.perm,R3.sb.kind,R3.sb.failed⟩,?_,by lia⟩,by lia⟩))
   show CovO L _ (Array.push _ _).toList 0 _
   rw[Array.toList_push]
   exact R3.cov.snoc (by lia) sg3
 case post =>
  rintro c st' ⟨lo,rfl,R,hlo⟩
  dsimp only
  have hle:=R.le
  have elo:lo=a₀.size:=by lia
  subst elo
  have hpz:=R.cov.len
  refine wpS_bind (wpS_mono (wpS_forRange (I:=λy c st'=>c=(none,())/\SRO L a₀ kd a₀.size st'/\(pendingOf st').size+y<=a₀.size+1) (Q:=λc st'=>c=(none,())/\SRO L a₀ kd a₀.size st'/\(pendingOf st').size<=1) ?st2 (λc st' ⟨e,R,hs⟩=>⟨e,R,by lia⟩) ⟨rfl,R,by simp at hpz;lia⟩) ?po2)
  case po2 =>
   rintro c st4 ⟨rfl,R4,h4⟩
   exact wpS_pure (h _ R4.sb (R4.cov.last (by simpa using h4)))
  case st2 =>
   rintro y c st4 _ _ ⟨rfl,R4,h4⟩
   refine wpS_bind (wpS_get ?_)
   refine zAM (λhz=>?_) (λhz=>?_)
   ·exact wpS_pure ⟨rfl,R4,hz⟩
   refine wpS_bind (zEO hA O R4 ?_ λst5 R5 hs5 _=>?_)
   ·exact Nat.lt_of_le_of_lt (Nat.add_le_add_right (zYZ (n:=(pendingOf st4).size-2) (by lia) (Nat.le_refl _)) 1) (by lia)
   ·exact wpS_pure ⟨rfl,R5,by lia⟩
end
end TS
namespace TS
open PySem PySem.W PyProof.Rows
theorem zY1{vs:List Value}{LV:Value->Value->Bool}{xs:Array Keyed}(hp:xs.Perm (pairsOf vs))(sg:Seg (λx y=>LV x.1 y.1) xs 0 (pairsOf vs).size):(xs.map (·.2)).toList.Pairwise λx y=>LV y x=false:=by
 rw[Array.toList_map,List.pairwise_map,List.pairwise_iff_getElem]
 intro i j hi hj hij
 have hz:=hp.size_eq
 have hi':i<xs.size:=by simpa using hi
 have hj':j<xs.size:=by simpa using hj
 have z:=sg i j hj' hij (Nat.zero_le _) (by omega)
 have same:∀x∈xs,x.1=x.2:=λx hx=>by
  have h1:x∈pairsOf vs:=hp.mem_iff.mp hx
  have h2:x∈vs.zip vs:=by rw[<-pairsOf_toList];exact Array.mem_toList_iff.mpr h1
  exact(mem_zip_self h2).1
 have e1:=same _ (Array.getElem_mem hi')
 have e2:=same _ (Array.getElem_mem hj')
 simp only[e1,e2] at z
 simpa using z
section
variable{prog:Program}{w:World}{A:Around}{E:Value->Shared->Prop}{s:Shared}
theorem zR4{a:Addr}{vs:List Value}{n:Nat}{R:PySem.Fin->Shared->Prop}{LV:Value->Value->Bool}(O:Ord (λx y=>LV x.1 y.1) (pairsOf vs))(ho:s.heap.get? a=some (seqObj "list" vs.toArray n))(hz:vs.length<=sizeLine)
  (hk:∀h6:Heap,(∀b o,b≠a->s.heap.get? b=some o->h6.get? b=some o)->2<=vs.length->wpAny (model prog w) A (keyKind' vs.toArray) (λk s'=>s'={ s with heap:=h6 }/\zJF prog w A s' k (pairsOf vs) (λx y=>LV x.1 y.1)) E { s with heap:=h6 })
  (h:∀out:List Value,out.Perm vs->(out.Pairwise λx y=>LV y x=false)->R (.done (.ret .none)) { s with heap:=sortedHeap s.heap a vs out.toArray }):wpAny (model prog w) A (Builtin.«list.sort» ⟨[.ref a],[]⟩) R E s:=by
 have la:a<s.heap.objs.size:=Heap.lt_size ho
 have zs:vs.toArray.size<=sizeLine:=by simpa using hz
 rw[list_sort_plain]
 refine wpAny_bind (listItems_at ho rfl (wpAny_bind (listUpdate_at ho rfl ?_ zs (Nat.zero_le _))))
 have g1:=get?_update_seq ho (λ_=>#[])
 generalize hh1:s.heap.update a (Obj.mapSeq λ_=>#[])=h1 at g1
 have z1:h1.objs.size=s.heap.objs.size:=by rw[<-hh1,Heap.size_update]
 have o1:∀b o,b≠a->s.heap.get? b=some o->h1.get? b=some o:=λb o hb e=>by rw[<-hh1,Heap.get?_update_ne _ _ _ _ hb];exact e
 refine wpAny_bind (seqEpoch_at g1 rfl (wpAny_bind (wpAny_newTuple (wpAny_bind (wpAny_newList (wpAny_holding ?_))) (by simpa using hz))))
 generalize hh6:(h1.push (seqObj "tuple" vs.toArray 0)).push (seqObj "list" #[] 0)=h6
 have old6:∀b o,h1.get? b=some o->h6.get? b=some o:=λb o e=>by rw[<-hh6];exact Heap.get?_push_of_some _ (Heap.get?_push_of_some _ e)
 have g6:=old6 _ _ g1
 have fin:∀st':SortSt,(arrOf st').Perm (pairsOf vs)->Seg (λx y=>LV x.1 y.1) (arrOf st') 0 (pairsOf vs).size->R (.done (.ret .none)) { s with heap:=h6.update a (Obj.mapSeq λ_=>(arrOf st').map (·.2)) }:=λst' hp sg=>by
  have q:=h _ (zJB hp) (zY1 hp sg)
  unfold sortedHeap at q
  rw[hh1,hh6,Array.toArray_toList] at q
  exact q
 have szp:∀st':SortSt,(arrOf st').Perm (pairsOf vs)->((arrOf st').map (·.2)).size<=sizeLine+1:=λst' hp=>by
  rw[Array.size_map,hp.size_eq,pairsOf_size];omega
 by_cases h2:vs.toArray.size<2
 ·rw[if_pos h2,if_pos h2]
  refine wpAny_bind (wpAny_pure ?_)
  dsimp only
  rw[StateT.run_pure]
  refine wpAny_bind (wpAny_pure (wpAny_bind (seqEpoch_at g6 rfl ?_)))
  refine wpAny_bind (listUpdate_at g6 rfl ?_ (Nat.zero_le _) (szp (SortSt.mk' general' (pairsOf vs) #[] 7 none) (Array.Perm.refl _)))
  simp only[bne_self_eq_false,Bool.false_eq_true,if_false]
  exact wpAny_pure (fin (SortSt.mk' general' (pairsOf vs) #[] 7 none) (Array.Perm.refl _) (λp q hq hpq hp hqn=>by rw[pairsOf_size] at hqn;simp at h2;omega))
 ·rw[if_neg h2,if_neg h2]
  refine wpAny_bind (wpAny_mono (hk h6 (λb o hb e=>old6 b o (o1 b o hb e)) (by simpa using h2)) (λk s7 ⟨e7,ask⟩=>?_) λ_ _ e=>e)
  subst e7
  refine wpAny_bind (wpAny_mono (zJJ (st:=SortSt.mk' k (vs.toArray.zip vs.toArray) #[] 7 none) (Q:=λ_ st'=>SB (pairsOf vs) k st'/\Seg (λx y=>LV x.1 y.1) (arrOf st') 0 (pairsOf vs).size) ask O ⟨Array.Perm.refl _,rfl,rfl⟩ rfl λst' b sg=>⟨b,sg⟩) ?_ λ_ _ e=>e)
  rintro⟨⟨⟩,st'⟩ s8 ⟨e8,B,sg⟩
  subst e8
  dsimp only
  refine wpAny_bind (seqEpoch_at g6 rfl (wpAny_bind (listUpdate_at g6 rfl ?_ (Nat.zero_le _) (szp st' B.perm))))
  rw[B.failed]
  simp only[bne_self_eq_false,Bool.false_eq_true,if_false]
  exact wpAny_pure (fin st' B.perm sg)
theorem sorted_inO{l:Addr}{vs:List Value}{Q:Value->Shared->Prop}{LV:Value->Value->Bool}(O:Ord (λx y=>LV x.1 y.1) (pairsOf vs))(hl:s.heap.IsList l vs.toArray)(hz:vs.length<=sizeLine)
  (hk:∀h6:Heap,(∀b o,s.heap.get? b=some o->h6.get? b=some o)->2<=vs.length->∀E',wpAny (model prog w) A.in1.in1 (keyKind' vs.toArray) (λk s'=>s'={ s with heap:=h6 }/\zJF prog w A.in1.in1 s' k (pairsOf vs) (λx y=>LV x.1 y.1)) E' { s with heap:=h6 })
  (h:∀out:List Value,out.Perm vs->(out.Pairwise λx y=>LV y x=false)->Q (.ref (s.heap.objs.size+1)) { s with heap:=sortedAll s.heap vs out.toArray }):wpAny (model prog w) A (call (.builtin "sorted") [.ref l]) Q E s:=by
 refine Calls.call_function_entry kind_sorted plain_sorted entry_sorted (args_sorted1 _) ?_
 unfold Builtin.«sorted»
 refine wpAny_bind (m:=checkCount "sorted" 1 1 _) (wpAny_pure (wpAny_bind (collect_list hl (wpAny_bind (wpAny_newList ?_ hz)) hz)))
 have old:∀b o,s.heap.get? b=some o->((s.heap.push (seqObj "list" #[] 0)).update s.heap.objs.size (Obj.mapSeq (·++vs.toArray))).get? b=some o:=λb o e=>by
  rw[Heap.get?_update_ne _ _ _ _ (Nat.ne_of_lt (Heap.lt_size e))];exact Heap.get?_push_of_some _ e
 have z2:((s.heap.push (seqObj "list" #[] 0)).update s.heap.objs.size (Obj.mapSeq (·++vs.toArray))).objs.size=s.heap.objs.size+1:=by rw[Heap.size_update,size_push']
 generalize hh2:(s.heap.push (seqObj "list" #[] 0)).update s.heap.objs.size (Obj.mapSeq (·++vs.toArray))=h2 at old z2
 have gL:(h2.push (seqObj "list" vs.toArray 0)).get? h2.objs.size=some (seqObj "list" vs.toArray 0):=Heap.get?_push_size _ rfl
 show wpAny _ _ _ _ _ { s with heap:=h2.push (seqObj "list" vs.toArray 0) }
 refine wpAny_bind (wpAny_holding (wpAny_call_entry slot_list_sort ⟨_,gL,rfl⟩ entry_list_sort (zR4 O gL hz (λh6 o6 h2'=>?_) λout ho hpw=>⟨_,rfl,?_⟩) (args_list_sort _)))
 ·exact hk h6 (λb o e=>o6 b o (by rw[z2];exact Nat.ne_of_lt (Nat.lt_succ_of_lt (Heap.lt_size e))) (Heap.get?_push_of_some _ (old b o e))) h2' _
 ·have q:=h out ho hpw
  unfold sortedAll at q
  rw[hh2,<-z2] at q
  exact wpAny_pure ⟨_,rfl,q⟩
end
end TS
namespace L2
open PySem PySem.Spec PyProof.Rows
theorem zVM(a₀:Array Keyed):TS.Ord (λx y=>decide (numOf x.1<numOf y.1)) a₀ where
 asym:=λx y _ _ h=>by
  have:=of_decide_eq_true h
  exact decide_eq_false (by omega)
 trans:=λx y z _ _ _ h1 h2=>by
  have a:=of_decide_eq_false h1
  have b:=of_decide_eq_false h2
  exact decide_eq_false (by omega)
theorem zVN{us:List Value}{ns:List Int}(h:IntsAre us ns)(p:us.Pairwise λx y=>decide (numOf y<numOf x)=false):ns.Pairwise (·<=·):=by
 rw[<-h.nums,List.pairwise_map]
 exact p.imp λh=>by have:=of_decide_eq_false h;omega
theorem zY2{α:Type}:∀{l:List α},2<=l.length->∃a b r,l=a::b::r
 |a::b::r,_=>⟨a,b,r,rfl⟩
 |[],h=>by simp at h
 |[_],h=>by simp at h
theorem call_sortedIO{X:Cx}:CallR X (.builtin "sorted") (λxs H Q=>∃(l:Addr) (ns:List Int),xs=[.ref l]/\SqL X.K H l (ns.map V.int)/\∀(ms:List Int) (q:Addr),ms.Perm ns->ms.Pairwise (·<=·)->H q=none->Q (.ref q) (upd H q (.lst (ms.map V.int)))):=by
 intro pins s σ H xs us Q I r h
 obtain⟨l,ns,rfl,hl,q⟩:=h
 obtain⟨u,rfl,ru⟩:=zEW r
 cases ru
 obtain⟨its,rv,pl,z⟩:=I.list hl
 have hlen:=rv.length
 have hi:IntsAre its ns:=zB6 rv
 refine TS.sorted_inO (LV:=λx y=>decide (numOf x<numOf y)) (zVM _) pl.isList (by rw[<-hlen];exact z) (λh6 o6 h2 E'=>?_) λout ho hpw=>?_
 ·obtain⟨v1,v2,vr,rfl⟩:=zY2 h2
  rw[keyKind_ints hi]
  refine wpAny_pure ⟨rfl,λx y hx hy Q' E2 hq=>?_⟩
  have mem:∀x:Keyed,x∈pairsOf (v1::v2::vr)->∃n t,x.1=.int n t:=λx hx=>by
   have:x∈(v1::v2::vr).zip (v1::v2::vr):=by rw[<-pairsOf_toList];exact Array.mem_toList_iff.mpr hx
   obtain⟨i,hi',ei⟩:=List.mem_iff_getElem.mp (List.of_mem_zip this).1
   obtain⟨t,et⟩:=IntsAre.int_at hi i x.1 (by rw[List.getElem?_eq_getElem hi',ei])
   exact⟨_,t,et⟩
  obtain⟨n1,t1,e1⟩:=mem x hx
  obtain⟨n2,t2,e2⟩:=mem y hy
  dsimp only at hq
  rw[e1,e2] at hq ⊢
  exact PySem.W.kat_lt_int hq
 ·obtain⟨zs,p,rz⟩:=Vals.perm ho rv
  obtain⟨e',hat⟩:=sortedAll_at s.heap its out.toArray
  have hf:H (s.heap.objs.size+1)=none:=I.hok.fresh (Nat.le_succ _)
  obtain⟨ms,rfl,pm⟩:=zO8 p ns rfl
  refine⟨.ref (s.heap.objs.size+1),_,I.laid (t':=s.toks) (o:=.lst (ms.map V.int)) (λb o hb=>sortedAll_old hb) (Nat.le_succ _) ⟨?_,out,e',rz,hat⟩,rfl,q ms _ pm (zVN (zB6 rz) hpw) hf⟩
  rw[p.length_eq];exact z
noncomputable def zEP(h:Heap):Value->Int×Int
 |.ref p=>match h.get? p with
  |some o=>match o.data with
   |.seq xs _=>(numOf (xs.getD 0 .none),numOf (xs.getD 1 .none))
   |_=>(0,0)
  |none=>(0,0)
 |_=>(0,0)
noncomputable def ltP(a b:Int×Int):Bool:=decide (a.1<b.1\/a.1=b.1/\a.2<b.2)
theorem zR5(h:Heap)(a₀:Array Keyed):TS.Ord (λx y=>ltP (zEP h x.1) (zEP h y.1)) a₀ where
 asym:=λx y _ _ e=>by
  have:=of_decide_eq_true e
  exact decide_eq_false (by omega)
 trans:=λx y z _ _ _ h1 h2=>by
  have a:=of_decide_eq_false h1
  have b:=of_decide_eq_false h2
  exact decide_eq_false (by omega)
def Prs(H:Hp)(ys:List V)(ps:List (Int×Int)):Prop:=Paired (λ(z:V) (p:Int×Int)=>∃q,z=.ref q/\H q=some (.tup [.int p.1,.int p.2])) ys ps
section
variable{prog:Program}{w:World}{A:Around}{s:Shared}
theorem zR6{b fin:Bool}{Q:Bool->Shared->Prop}{x1 y1 x2 y2:Int}{t1 t2 t3 t4:Tok}(hf:fin=false)(hq:Q (ltP (x1,y1) (x2,y2)) s):PySem.W.KatLex prog w A b fin Q [(.int x1 t1,.int x2 t2),(.int y1 t3,.int y2 t4)] 0 s:=by
 have one:∀{i:Nat} {u v:Int} {t t':Tok},Q (decide (u<v)) s->wpAny (model prog w) A (oneLt' (b&&i==0) (.int u t) (.int v t')) Q (λ_ _=>False) s:=λ{i u v t t'} h=>by
  cases hb:(b&&i==0) with
  |true=>exact oneLt_int h
  |false=>exact PySem.W.kat_one _ _ (lt_int h)
 refine PySem.W.kat_cons (wpAny_eqBool_int (PySem.W.kat_go (λh1=>PySem.W.kat_yes (PySem.W.kat_cons (wpAny_eqBool_int (PySem.W.kat_go (λh2=>PySem.W.kat_yes (PySem.W.kat_nil ?_)) λh2=>PySem.W.kat_no (one ?_))))) λh1=>PySem.W.kat_no (one ?_)))
 ·have e1:x1=x2:=by simpa using h1
  have e2:y1=y2:=by simpa using h2
  subst e1;subst e2
  rw[hf]
  have:ltP (x1,y1) (x1,y1)=false:=decide_eq_false (by simp)
  rw[this] at hq
  exact hq
 ·have e1:x1=x2:=by simpa using h1
  subst e1
  have:ltP (x1,y1) (x1,y2)=decide (y1<y2):=by unfold ltP;simp
  rw[this] at hq
  exact hq
 ·have e1:¬x1=x2:=by simpa using h1
  have:ltP (x1,y1) (x2,y2)=decide (x1<x2):=by unfold ltP;simp[e1]
  rw[this] at hq
  exact hq
end
theorem Prs.perm{H:Hp}{zs ys:List V}(p:zs.Perm ys):∀{ps:List (Int×Int)},Prs H ys ps->∃qs,qs.Perm ps/\Prs H zs qs:=by
 induction p with
 |nil=>intro ps r;cases r;exact⟨[],List.Perm.refl _,.nil⟩
 |cons a _ ih =>
  intro ps r
  cases r with
  |cons h t =>
   obtain⟨qs,q,r'⟩:=ih t
   exact⟨_::qs,q.cons _,.cons h r'⟩
 |swap a b l =>
  intro ps r
  cases r with
  |cons h t =>
   cases t with
   |cons h' t'=>exact⟨_::_::_,List.Perm.swap _ _ _,.cons h' (.cons h t')⟩
 |trans _ _ ih1 ih2 =>
  intro ps r
  obtain⟨qs,q,r'⟩:=ih2 r
  obtain⟨us,q',r''⟩:=ih1 r'
  exact⟨us,q'.trans q,r''⟩
theorem zPD{X:Cx}{pins:List (Addr×Obj)}{σ:St}{H:Hp}{s:Shared}(I:Inv X pins σ H s):∀{ys:List V} {us:List Value} {ps:List (Int×Int)},Vals ys us->Prs H ys ps ->
  (∀y∈ys,zT0 H y)/\us.map (zEP s.heap)=ps/\∀u∈us,∃(p:Addr) (o:Obj) (k:Nat) (x y:Int) (t1 t2:Tok),u=.ref p/\s.heap.get? p=some o/\o.data=.seq #[.int x t1,.int y t2] k/\zEP s.heap u=(x,y)
 |_,_,_,.nil,.nil=>⟨(λy hy=>nomatch hy),rfl,(λu hu=>nomatch hu)⟩
 |_,_,_,.cons r t,.cons (b:=pp) ⟨q,e,hq⟩ t'=>by
  obtain⟨i1,i2,i3⟩:=zPD I t t'
  subst e
  cases r
  obtain⟨its,rv,tp,_⟩:=I.tuple (SqT.of (K:=X.K) hq)
  have hi:IntsAre its [pp.1,pp.2]:=zB6 (ns:=[pp.1,pp.2]) rv
  obtain⟨o,ho,hc,k,hd⟩:=tp
  obtain⟨t1,t2,rfl⟩:∃t1 t2,its=[.int pp.1 t1,.int pp.2 t2]:=by
   cases hi with
   |cons _ t1 h2 =>
    cases h2 with
    |cons _ t2 h3=>cases h3;exact⟨t1,t2,rfl⟩
  have e2:zEP s.heap (.ref q)=(pp.1,pp.2):=by
   unfold zEP
   simp only[ho,hd]
   rfl
  refine⟨λy hy=>?_,?_,λv hv=>?_⟩
  ·rcases List.mem_cons.mp hy with rfl|hy
   ·exact⟨q,pp.1,[pp.2],rfl,hq⟩
   ·exact i1 y hy
  ·rw[List.map_cons,i2,e2]
  ·rcases List.mem_cons.mp hv with rfl|hv
   ·exact⟨q,o,k,pp.1,pp.2,t1,t2,rfl,ho,hd,e2⟩
   ·exact i3 v hv
theorem zHS{X:Cx}:CallR X (.builtin "sorted") (λxs H Q=>∃(l:Addr) (ys:List V) (ps:List (Int×Int)),xs=[.ref l]/\SqL X.K H l ys/\Prs H ys ps/\∀(zs:List V) (qs:List (Int×Int)) (q:Addr),zs.Perm ys->Prs H zs qs->qs.Perm ps->(qs.Pairwise λa b=>ltP b a=false)->H q=none->Q (.ref q) (upd H q (.lst zs))):=by
 intro pins s σ H xs us Q I r h
 obtain⟨l,ys,ps,rfl,hl,hps,q⟩:=h
 obtain⟨u,rfl,ru⟩:=zEW r
 cases ru
 obtain⟨its,rv,pl,z⟩:=I.list hl
 have hlen:=rv.length
 obtain⟨ht,e0,at0⟩:=zPD I rv hps
 obtain⟨fs,f1,f2,f3,f4⟩:=zO1 I rv ht
 refine TS.sorted_inO (LV:=λx y=>ltP (zEP s.heap x) (zEP s.heap y)) (zR5 _ _) pl.isList (by rw[<-hlen];exact z) (λh6 o6 h2 E'=>?_) λout ho hpw=>?_
 ·refine PySem.W.kat_kind (T:=.type "int") (zJC o6 f2) (by rw[f1];omega) (λv hv=>?_) (by decide) ⟨rfl,λx y hx hy Q' E2 hq=>?_⟩
  ·obtain⟨n,t,rfl⟩:=f3 v hv
   exact PySem.W.Looks.now
  ·have mem:∀x:Keyed,x∈pairsOf its->x.1∈its:=λx hx=>by
    have:x∈its.zip its:=by rw[<-pairsOf_toList];exact Array.mem_toList_iff.mpr hx
    exact(List.of_mem_zip this).1
   obtain⟨p1,o1,k1,x1,y1,t1,t2,e1,ho1,hd1,ep1⟩:=at0 _ (mem x hx)
   obtain⟨p2,o2,k2,x2,y2,t3,t4,e2,ho2,hd2,ep2⟩:=at0 _ (mem y hy)
   dsimp only at hq
   rw[ep1,ep2] at hq
   rw[e1,e2]
   exact PySem.W.kat_lt (o6 _ _ ho1) hd1 (o6 _ _ ho2) hd2 (zR6 rfl hq)
 ·obtain⟨zs,p,rz⟩:=Vals.perm ho rv
  obtain⟨qs,pq,hqs⟩:=Prs.perm p hps
  obtain⟨_,e3,_⟩:=zPD I rz hqs
  obtain⟨e',hat⟩:=sortedAll_at s.heap its out.toArray
  have hf:H (s.heap.objs.size+1)=none:=I.hok.fresh (Nat.le_succ _)
  have pw:qs.Pairwise λa b=>ltP b a=false:=by
   rw[<-e3,List.pairwise_map]
   exact hpw
  refine⟨.ref (s.heap.objs.size+1),_,I.laid (t':=s.toks) (o:=.lst zs) (λb o hb=>sortedAll_old hb) (Nat.le_succ _) ⟨?_,out,e',rz,hat⟩,rfl,q zs qs _ p hqs pq pw hf⟩
  rw[p.length_eq];exact z
inductive D where
 |non|bl (b:Bool)|int (i:Int)|str (x:Str)|tup (xs:List D)|lst (xs:List D)
 |dk (kvs:List (Key×D))|dt (kvs:List (List Int×D))
inductive Out(α:Type) where
 |ok (a:α)|exc (c:Nat)|bad
noncomputable def Out.bind{α β:Type}:Out α->(α->Out β)->Out β
 |.ok a,f=>f a
 |.exc c,_=>.exc c
 |.bad,_=>.bad
theorem Out.bind_ok{α β:Type}{x:Out α}{f:α->Out β}{b:β}(h:x.bind f=.ok b):∃a,x=.ok a/\f a=.ok b:=by
 cases x with
 |ok a=>exact⟨a,rfl,h⟩
 |exc c=>cases h
 |bad=>cases h
inductive Sl where
 |no|val (d:D)|own (t:Bool) (d:D)
abbrev Ev:=List Sl
def zPE:HO->Prop
 |.dK _=>True
 |.dT _=>True
 |_=>False
def Le(F F':Hp):Prop:=∀a u,F a=some u->F' a=some u\/(zPE u/\∃o,F' a=some (.frz o u))\/∃t ps ps',u=.tbl t ps/\F' a=some (.tbl t ps')
theorem Le.refl(F:Hp):Le F F:=λ_ _ h=>.inl h
theorem Le.trans{F G H:Hp}(x:Le F G)(y:Le G H):Le F H:=λa u e=>by
 rcases x a u e with h|⟨hd,o,h⟩|⟨t,ps,ps',rfl,h⟩
 ·exact y a u h
 ·rcases y a _ h with h|⟨hd',_⟩|⟨_,_,_,z,_⟩
  ·exact .inr (.inl ⟨hd,o,h⟩)
  ·exact hd'.elim
  ·cases z
 ·rcases y a _ h with h|⟨hd',_⟩|⟨_,_,_,z,h⟩
  ·exact .inr (.inr ⟨_,_,_,rfl,h⟩)
  ·exact hd'.elim
  ·cases z;exact .inr (.inr ⟨_,_,_,rfl,h⟩)
theorem Le.rd{F F':Hp}(l:Le F F'){a:Addr}{u:HO}(h:Rd F a u)(hu:∀t ps,u≠.tbl t ps:=by intro _ _ z;cases z):Rd F' a u:=by
 rcases h with h|⟨o,h⟩
 ·rcases l a u h with h|⟨_,o,h⟩|⟨_,_,_,z,_⟩
  ·exact .inl h
  ·exact .inr ⟨o,h⟩
  ·exact absurd z (hu _ _)
 ·rcases l a _ h with h|⟨hd,_⟩|⟨_,_,_,z,_⟩
  ·exact .inr ⟨o,h⟩
  ·exact hd.elim
  ·cases z
theorem Le.tup{F F':Hp}(l:Le F F'){a:Addr}{vs:List V}(h:F a=some (.tup vs)):F' a=some (.tup vs):=by
 rcases l a _ h with h|⟨hd,_⟩|⟨_,_,_,z,_⟩
 ·exact h
 ·exact hd.elim
 ·cases z
theorem Le.of_gr{F F':Hp}(g:Gr F F'):Le F F':=λa u e=>.inl (g a u e)
mutual
inductive Rep(K:PySem.W.Frag)(F:Hp):V->D->Prop
 |non:Rep K F .non .non
 |bl (b:Bool):Rep K F (.bl b) (.bl b)
 |int (i:Int):Rep K F (.int i) (.int i)
 |str (x:Str):Rep K F (.str x) (.str x)
 |tup {a:Addr} {vs:List V} {ds:List D}:F a=some (.tup vs)->Reps K F vs ds->Rep K F (.ref a) (.tup ds)
 |tupK {a:Addr} {xs:List Str}:SqT K (λ_=>none) a (xs.map V.str)->xs≠[]->Rep K F (.ref a) (.tup (xs.map D.str))
 |lst {a:Addr} {vs:List V} {ds:List D}:SqL K F a vs->Reps K F vs ds->Rep K F (.ref a) (.lst ds)
 |dk {a:Addr} {kvs:List (Key×V)} {ds:List (Key×D)}:Rd F a (.dK kvs)->RepK K F kvs ds->Rep K F (.ref a) (.dk ds)
 |dt {a:Addr} {kvs:List (List Key×V)} {ds:List (List Int×D)}:Rd F a (.dT kvs)->RepT K F kvs ds->Rep K F (.ref a) (.dt ds)
inductive Reps(K:PySem.W.Frag)(F:Hp):List V->List D->Prop
 |nil:Reps K F [] []
 |cons {v:V} {d:D} {vs:List V} {ds:List D}:Rep K F v d->Reps K F vs ds->Reps K F (v::vs) (d::ds)
inductive RepK(K:PySem.W.Frag)(F:Hp):List (Key×V)->List (Key×D)->Prop
 |nil:RepK K F [] []
 |cons {k:Key} {v:V} {d:D} {vs:List (Key×V)} {ds:List (Key×D)}:Rep K F v d->RepK K F vs ds->RepK K F ((k,v)::vs) ((k,d)::ds)
inductive RepT(K:PySem.W.Frag)(F:Hp):List (List Key×V)->List (List Int×D)->Prop
 |nil:RepT K F [] []
 |cons {k:List Int} {v:V} {d:D} {vs:List (List Key×V)} {ds:List (List Int×D)}:Rep K F v d->RepT K F vs ds->RepT K F ((k.map Sum.inl,v)::vs) ((k,d)::ds)
end
section
variable{K:PySem.W.Frag}{F F':Hp}
mutual
theorem Rep.le(l:Le F F'):∀{v:V} {d:D},Rep K F v d->Rep K F' v d
 |_,_,.non=>.non
 |_,_,.bl b=>.bl b
 |_,_,.int i=>.int i
 |_,_,.str x=>.str x
 |_,_,.tup h r=>.tup (l.tup h) (Reps.le l r)
 |_,_,.tupK h n=>.tupK h n
 |_,_,.lst h r=>.lst (h.imp (λz=>l.rd z) id) (Reps.le l r)
 |_,_,.dk h r=>.dk (l.rd h) (RepK.le l r)
 |_,_,.dt h r=>.dt (l.rd h) (RepT.le l r)
theorem Reps.le(l:Le F F'):∀{v:List V} {d:List D},Reps K F v d->Reps K F' v d
 |_,_,.nil=>.nil
 |_,_,.cons h r=>.cons (Rep.le l h) (Reps.le l r)
theorem RepK.le(l:Le F F'):∀{v:List (Key×V)} {d:List (Key×D)},RepK K F v d->RepK K F' v d
 |_,_,.nil=>.nil
 |_,_,.cons h r=>.cons (Rep.le l h) (RepK.le l r)
theorem RepT.le(l:Le F F'):∀{v:List (List Key×V)} {d:List (List Int×D)},RepT K F v d->RepT K F' v d
 |_,_,.nil=>.nil
 |_,_,.cons h r=>.cons (Rep.le l h) (RepT.le l r)
end
theorem Rep.vI{v:V}{i:Int}(r:Rep K F v (.int i)):v=.int i:=by cases r;rfl
theorem Rep.vB{v:V}{b:Bool}(r:Rep K F v (.bl b)):v=.bl b:=by cases r;rfl
theorem Rep.vS{v:V}{x:Str}(r:Rep K F v (.str x)):v=.str x:=by cases r;rfl
theorem Rep.vN{v:V}(r:Rep K F v .non):v=.non:=by cases r;rfl
theorem Reps.length:∀{vs:List V} {ds:List D},Reps K F vs ds->vs.length=ds.length
 |_,_,.nil=>rfl
 |_,_,.cons _ r=>by rw[List.length_cons,List.length_cons,r.length]
theorem Reps.append:∀{vs ws:List V} {ds es:List D},Reps K F vs ds->Reps K F ws es->Reps K F (vs++ws) (ds++es)
 |_,_,_,_,.nil,s=>s
 |_,_,_,_,.cons h r,s=>.cons h (Reps.append r s)
theorem Reps.get:∀{vs:List V} {ds:List D} {i:Nat} {d:D},Reps K F vs ds->ds[i]?=some d->∃v,vs[i]?=some v/\Rep K F v d
 |_,_,_,_,.nil,e=>by simp at e
 |_,_,0,_,.cons h _,e=>by simp at e;subst e;exact⟨_,rfl,h⟩
 |_,_,i+1,d,.cons _ r,e=>by
  obtain⟨v,h1,h2⟩:=Reps.get (i:=i) (d:=d) r (by simpa using e)
  exact⟨v,by simpa using h1,h2⟩
theorem Reps.set:∀{vs:List V} {ds:List D} (i:Nat) {v:V} {d:D},Reps K F vs ds->Rep K F v d->Reps K F (vs.set i v) (ds.set i d)
 |_,_,_,_,_,.nil,_=>.nil
 |_,_,0,_,_,.cons _ r,h=>.cons h r
 |_,_,i+1,_,_,.cons q r,h=>.cons q (Reps.set i r h)
theorem Reps.take:∀{vs:List V} {ds:List D} (n:Nat),Reps K F vs ds->Reps K F (vs.take n) (ds.take n)
 |_,_,0,_=>.nil
 |_,_,_+1,.nil=>.nil
 |_,_,n+1,.cons h r=>.cons h (Reps.take n r)
theorem Reps.drop:∀{vs:List V} {ds:List D} (n:Nat),Reps K F vs ds->Reps K F (vs.drop n) (ds.drop n)
 |_,_,0,r=>r
 |_,_,_+1,.nil=>.nil
 |_,_,n+1,.cons _ r=>Reps.drop n r
theorem Reps.reverse:∀{vs:List V} {ds:List D},Reps K F vs ds->Reps K F vs.reverse ds.reverse
 |_,_,.nil=>.nil
 |_,_,.cons h r=>by rw[List.reverse_cons,List.reverse_cons];exact(Reps.reverse r).append (.cons h .nil)
theorem Reps.eraseIdx:∀{vs:List V} {ds:List D} (i:Nat),Reps K F vs ds->Reps K F (vs.eraseIdx i) (ds.eraseIdx i)
 |_,_,_,.nil=>.nil
 |_,_,0,.cons _ r=>r
 |_,_,i+1,.cons h r=>.cons h (Reps.eraseIdx i r)
theorem Reps.rep(n:Nat){vs:List V}{ds:List D}(r:Reps K F vs ds):Reps K F (List.replicate n vs).flatten (List.replicate n ds).flatten:=by
 induction n with
 |zero=>exact .nil
 |succ n ih=>rw[List.replicate_succ,List.flatten_cons,List.replicate_succ,List.flatten_cons];exact r.append ih
theorem Reps.nil_iff{vs:List V}{ds:List D}(r:Reps K F vs ds):vs=[]↔ds=[]:=by cases r<;>simp
theorem Reps.ints:∀ns:List Int,Reps K F (ns.map V.int) (ns.map D.int)
 |[]=>.nil
 |n::ns=>.cons (.int n) (Reps.ints ns)
theorem Reps.vint:∀{ns:List Int} {vs:List V},Reps K F vs (ns.map D.int)->vs=ns.map V.int
 |[],_,.nil=>rfl
 |_::_,_,.cons h r=>by cases h;rw[Reps.vint r];rfl
theorem Reps.vstr:∀{bs:List Str} {vs:List V},Reps K F vs (bs.map D.str)->vs=bs.map V.str
 |[],_,.nil=>rfl
 |_::_,_,.cons h r=>by cases h;rw[Reps.vstr r];rfl
end
def Sub(F H:Hp):Prop:=∀a u,F a=some u->H a=some u
theorem Sub.rd{F H:Hp}(s:Sub F H){a:Addr}{u:HO}(h:Rd F a u):Rd H a u:=h.imp (s a u) λ⟨o,h⟩=>⟨o,s a _ h⟩
def OwnAt(K:PySem.W.Frag)(F H:Hp)(a:Addr):D->Prop
 |.lst ds=>∃vs,H a=some (.lst vs)/\Reps K F vs ds
 |.dk ds=>∃kvs,H a=some (.dK kvs)/\RepK K F kvs ds
 |.dt ds=>∃kvs,H a=some (.dT kvs)/\RepT K F kvs ds
 |_=>False
def zJK:HO->Prop
 |.lst _=>True
 |.dK _=>True
 |.dT _=>True
 |_=>False
theorem OwnAt.ho{K:PySem.W.Frag}{F H:Hp}{a:Addr}{d:D}(h:OwnAt K F H a d):∃o,H a=some o/\zJK o:=by
 cases d with
 |lst ds=>obtain⟨vs,e,_⟩:=h;exact⟨_,e,trivial⟩
 |dk ds=>obtain⟨vs,e,_⟩:=h;exact⟨_,e,trivial⟩
 |dt ds=>obtain⟨vs,e,_⟩:=h;exact⟨_,e,trivial⟩
 |_=>exact h.elim
theorem OwnAt.mono{K:PySem.W.Frag}{F F' H H':Hp}{a:Addr}{d:D}(h:OwnAt K F H a d)(l:Le F F')(e:H' a=H a):OwnAt K F' H' a d:=by
 cases d with
 |lst ds=>obtain⟨vs,q,r⟩:=h;exact⟨vs,e.trans q,r.le l⟩
 |dk ds=>obtain⟨vs,q,r⟩:=h;exact⟨vs,e.trans q,r.le l⟩
 |dt ds=>obtain⟨vs,q,r⟩:=h;exact⟨vs,e.trans q,r.le l⟩
 |_=>exact h.elim
theorem OwnAt.rep{K:PySem.W.Frag}{F H:Hp}{a:Addr}{d:D}(h:OwnAt K F H a d)(n:F a=none){o:HO}(eo:H a=some o):Rep K (upd F a o) (.ref a) d:=by
 have l:Le F (upd F a o):=.of_gr (Gr.new n)
 cases d with
 |lst ds=>obtain⟨vs,q,r⟩:=h;rw[eo] at q;cases q;exact .lst (.inl (.inl zAD)) (r.le l)
 |dk ds=>obtain⟨vs,q,r⟩:=h;rw[eo] at q;cases q;exact .dk (.inl zAD) (r.le l)
 |dt ds=>obtain⟨vs,q,r⟩:=h;rw[eo] at q;cases q;exact .dt (.inl zAD) (r.le l)
 |_=>exact h.elim
def owA(σ:St)(E:Ev)(a:Addr):Prop:=∃(i:Nat) (t:Bool) (d:D),E[i]?=some (Sl.own t d)/\σ[i]?=some (some (V.ref a))
structure Sim(K:PySem.W.Frag)(H₀:Hp)(τ:Addr)(F H:Hp)(σ:St)(E:Ev):Prop where
 sub:Sub F H
 len:E.length=σ.length
 val:∀(i:Nat) d,E[i]?=some (.val d)->∃v,σ[i]?=some (some v)/\Rep K F v d
 own:∀(i:Nat) t d,E[i]?=some (.own t d)->∃a,σ[i]?=some (some (.ref a))/\F a=none/\OwnAt K F H a d/\(∀o u,H₀ a≠some (.frz o u))/\(t=true->τ=a)
 inj:∀(i j:Nat) t u d e a,E[i]?=some (.own t d)->E[j]?=some (.own u e)->σ[i]?=some (some (.ref a))->σ[j]?=some (some (.ref a))->i=j
def Nw(H:Hp)(a:Addr):Prop:=∀o,H a=some o->¬zJK o
theorem Nw.none{H:Hp}{a:Addr}(h:H a=none):Nw H a:=λo e=>by rw[h] at e;cases e
structure Stp(ow:Addr->Prop)(F H F' H':Hp)(ow':Addr->Prop):Prop where
 keep:∀a o,H a=some o->zJK o->F a=none->¬ow a->H' a=some o
 dom:∀a,H' a=none->H a=none
 le:Le F F'
 new:∀a o,F' a=some o->F a≠none\/Nw H a\/ow a
 own:∀a,ow' a->ow a\/H a=none
section
variable{K:PySem.W.Frag}{H₀:Hp}{τ:Addr}{F H F' H' F1 H1 F2 H2:Hp}{σ σ':St}{E E':Ev}{ow ow1 ow2:Addr->Prop}
theorem Stp.refl:Stp ow F H F H ow:=⟨λ_ _ h _ _ _=>h,λ_ h=>h,.refl _,λa o e=>.inl (by rw[e];exact nofun),λ_ h=>.inl h⟩
theorem Stp.nF (x : Stp ow F H F1 H1 ow1) {a : Addr} {o : HO} (hf : F a = none) (e : H a = some o) (hw : zJK o) (ho : ¬ ow a) : F1 a = none := by
  cases e1 : F1 a with
  | none => rfl
  | some u => rcases x.new a u e1 with z | z | z
              · exact absurd hf z
              · exact absurd hw (z o e)
              · exact absurd z ho
theorem Stp.nw(x:Stp ow F H F1 H1 ow1){a:Addr}(z:Nw H1 a):F a≠none\/Nw H a\/ow a:=by
 by_cases h1:F a=none
 ·by_cases h2:ow a
  ·exact .inr (.inr h2)
  ·exact .inr (.inl λo e hw=>z o (x.keep a o e hw h1 h2) hw)
 ·exact .inl h1
theorem Stp.trans(x:Stp ow F H F1 H1 ow1)(y:Stp ow1 F1 H1 F2 H2 ow2):Stp ow F H F2 H2 ow2:=by
 have o1:∀a,H a≠none->¬ow a->¬ow1 a:=λa hh ho z=>(x.own a z).elim ho hh
 refine⟨λa o e hw hf ho=>?_,λa h=>x.dom a (y.dom a h),x.le.trans y.le,λa o e=>?_,λa h=>?_⟩
 ·have hh:H a≠none:=by rw[e];exact nofun
  exact y.keep a o (x.keep a o e hw hf ho) hw (x.nF hf e hw ho) (o1 a hh ho)
 ·rcases y.new a o e with z|z|z
  ·cases e1:F1 a with
   |none=>exact absurd e1 z
   |some u=>exact x.new a u e1
  ·exact x.nw z
  ·exact(x.own a z).elim (λq=>.inr (.inr q)) λq=>.inr (.inl (.none q))
 ·exact(y.own a h).elim (x.own a) λq=>.inr (x.dom a q)
theorem Stp.weak(x:Stp ow F H F1 H1 ow1)(h:∀a,ow2 a->ow1 a):Stp ow F H F1 H1 ow2:=⟨x.keep,x.dom,x.le,x.new,λa q=>x.own a (h a q)⟩
def New(F H F' H':Hp):Prop:=Stp (λ_=>False) F H F' H' (λ_=>False)/\Sub F' H'
theorem New.stp(n:New F H F' H'):Stp ow F H F' H' ow :=
 ⟨λa o e hw hf _=>n.1.keep a o e hw hf id,n.1.dom,n.1.le,λa o e=>(n.1.new a o e).elim .inl λz=>z.elim (λz=>.inr (.inl z)) λz=>z.elim,λ_ h=>.inl h⟩
theorem New.refl(s:Sub F H):New F H F H:=⟨Stp.refl,s⟩
theorem New.trans(x:New F H F1 H1)(y:New F1 H1 F2 H2):New F H F2 H2:=⟨x.1.trans y.1,y.2⟩
theorem New.laid{p:Addr}{o:HO}(s:Sub F H)(h:H p=none):New F H (upd F p o) (upd H p o):=by
 have hf:F p=none:=by
  cases e:F p with
  |none=>rfl
  |some u=>rw[s p u e] at h;cases h
 refine⟨⟨λa u e _ _ _=>by rw[zAE (zAS e h)];exact e,λa e=>?_,.of_gr (Gr.new hf),λa u e=>?_,λ_ z=>z.elim⟩,λa u e=>?_⟩
 ·by_cases ha:a=p
  ·subst ha;rw[zAD] at e;cases e
  ·rw[zAE ha] at e;exact e
 ·by_cases ha:a=p
  ·subst ha;exact .inr (.inl (.none h))
  ·rw[zAE ha] at e;exact .inl (by rw[e];exact nofun)
 ·by_cases ha:a=p
  ·subst ha;rw[zAD] at e ⊢;exact e
  ·rw[zAE ha] at e ⊢;exact s a u e
theorem Gr.dom(g:Gr H H')(a:Addr)(e:H' a=none):H a=none:=by
 cases q:H a with
 |none=>rfl
 |some o=>rw[g a o q] at e;cases e
theorem New.junk(s:Sub F H)(g:Gr H H'):New F H F H' :=
 ⟨⟨λa o e _ _ _=>g a o e,g.dom,.refl _,λa o e=>.inl (by rw[e];exact nofun),λ_ z=>z.elim⟩,λa u e=>g a u (s a u e)⟩
noncomputable def gro(F H H':Hp):Hp:=λa=>match H a with|none=>H' a|some _=>F a
theorem zK4{a:Addr}(h:H a=none):gro F H H' a=H' a:=by unfold gro;rw[h]
theorem zK5{a:Addr}{o:HO}(h:H a=some o):gro F H H' a=F a:=by unfold gro;rw[h]
theorem New.gro(s:Sub F H)(g:Gr H H'):New F H (gro F H H') H':=by
 refine⟨⟨λa o e _ _ _=>g a o e,g.dom,.of_gr λa u e=>by rw[zK5 (s a u e)];exact e,λa o e=>?_,λ_ z=>z.elim⟩,λa u e=>?_⟩
 ·cases q:H a with
  |none=>exact .inr (.inl (.none q))
  |some v=>rw[zK5 q] at e;exact .inl (by rw[e];exact nofun)
 ·cases q:H a with
  |none=>rw[zK4 q] at e;exact e
  |some v=>rw[zK5 q] at e;exact g a u (s a u e)
theorem Sim.new(S:Sim K H₀ τ F H σ E)(n:New F H F' H'):Sim K H₀ τ F' H' σ E where
 sub:=n.2
 len:=S.len
 val:=λi d e=>let ⟨v,h1,h2⟩:=S.val i d e;⟨v,h1,h2.le n.1.le⟩
 own:=λi t d e=>by
  obtain⟨a,h1,h2,h3,h4⟩:=S.own i t d e
  obtain⟨o,ho,hw⟩:=h3.ho
  exact⟨a,h1,n.1.nF h2 ho hw id,h3.mono n.1.le ((n.1.keep a o ho hw h2 id).trans ho.symm),h4⟩
 inj:=S.inj
theorem Sim.fresh(S:Sim K H₀ τ F H σ E){a:Addr}(h:H a=none):¬owA σ E a:=λ⟨i,t,d,e,e'⟩=>by
 obtain⟨b,h1,_,h3,_⟩:=S.own i t d e
 rw[e'] at h1
 cases h1
 obtain⟨o,ho,_⟩:=h3.ho
 rw[h] at ho;cases ho
end
abbrev G:=Ev->Out (D×Ev)
def tV(K:PySem.W.Frag)(H₀:Hp)(g:G):TE:=λσ H Q=>∃τ F E d E',Sim K H₀ τ F H σ E/\g E=.ok (d,E') /\
 ∀v F' H',Stp (owA σ E) F H F' H' (owA σ E')->Sim K H₀ τ F' H' σ E'->Rep K F' v d->Q v H'
def tF(K:PySem.W.Frag)(H₀:Hp)(g:G):TE:=λσ H Q=>∃τ F E d E',Sim K H₀ τ F H σ E/\g E=.ok (d,E') /\
 ∀a F' H',Stp (owA σ E) F H F' H' (owA σ E')->Sim K H₀ τ F' H' σ E'->F' a=none->H a=none->OwnAt K F' H' a d->¬owA σ E' a->Q (.ref a) H'
def tT(K:PySem.W.Frag)(H₀:Hp)(g:Ev->Out (Bool×Ev)):TT:=λσ H Q=>∃τ F E b E',Sim K H₀ τ F H σ E/\g E=.ok (b,E') /\
 ∀F' H',Stp (owA σ E) F H F' H' (owA σ E')->Sim K H₀ τ F' H' σ E'->Q b H'
theorem PE.imp{X:Cx}{e:Expr}{t t':TE}(h:PE X e t)(hi:∀σ H Q,t' σ H Q->t σ H Q):PE X e t':=λpins s σ H Q I q=>h pins s σ H Q I (hi σ H Q q)
theorem PT.imp{X:Cx}{e:Expr}{t t':TT}(h:PT X e t)(hi:∀σ H Q,t' σ H Q->t σ H Q):PT X e t':=λpins s σ H Q I q=>h pins s σ H Q I (hi σ H Q q)
theorem PW.imp{X:Cx}{e:Expr}{t t':TT}(h:PW X e t)(hi:∀σ H Q,t' σ H Q->t σ H Q):PW X e t':=λw pins s σ H Q I q=>h w pins s σ H Q I (hi σ H Q q)
theorem PS.imp{X:Cx}{e:Stmt}{t t':TS}(h:PS X e t)(hi:∀D σ H,t' D σ H->t D σ H):PS X e t':=λpins s σ H D I q=>h pins s σ H D I (hi D σ H q)
theorem PSs.imp{X:Cx}{e:List Stmt}{t t':TS}(h:PSs X e t)(hi:∀D σ H,t' D σ H->t D σ H):PSs X e t':=λpins s σ H D I q=>h pins s σ H D I (hi D σ H q)
abbrev VE(X:Cx)(e:Expr)(g:G):Prop:=PE X e (tV X.K X.H₀ g)
abbrev FE(X:Cx)(e:Expr)(g:G):Prop:=PE X e (tF X.K X.H₀ g)
abbrev VT(X:Cx)(e:Expr)(g:Ev->Out (Bool×Ev)):Prop:=PT X e (tT X.K X.H₀ g)
section
variable{X:Cx}{e a b c:Expr}{g ga gb gc:G}{pos:Pos}{K:PySem.W.Frag}{H₀:Hp}
theorem tF.toV{σ:St}{H:Hp}{Q:VK}(h:tV K H₀ g σ H Q):tF K H₀ g σ H Q:=by
 obtain⟨τ,F,E,d,E',S,hg,k⟩:=h
 refine⟨τ,F,E,d,E',S,hg,λp F' H' st S' n n0 ow no=>?_⟩
 obtain⟨o,ho,hown⟩:=ow.ho
 have nw:Stp (owA σ E) F H (upd F' p o) H' (owA σ E'):=⟨st.keep,st.dom,st.le.trans (.of_gr (Gr.new n)),λa u e=>by
  by_cases ha:a=p
  ·subst ha;exact .inr (.inl (.none n0))
  ·rw[zAE ha] at e;exact st.new a u e,st.own⟩
 refine k _ _ _ nw ⟨λa u e=>?_,S'.len,λi d e=>?_,λi t d e=>?_,S'.inj⟩ (ow.rep n ho)
 ·by_cases ha:a=p
  ·subst ha;rw[zAD] at e;rw[ho];exact e
  ·rw[zAE ha] at e;exact S'.sub a u e
 ·obtain⟨v,h1,h2⟩:=S'.val i d e;exact⟨v,h1,h2.le (.of_gr (Gr.new n))⟩
 ·obtain⟨b,h1,h2,h3,h4⟩:=S'.own i t d e
  refine⟨b,h1,?_,h3.mono (.of_gr (Gr.new n)) rfl,h4⟩
  rw[zAE (λz=>no ⟨i,t,d,e,by rw[<-z];exact h1⟩)];exact h2
theorem FE.ve(h:FE X e g):VE X e g:=PE.imp h λ_ _ _ q=>tF.toV q
noncomputable def zAB(i:Nat):G:=λE=>match E[i]? with
 |some (.val d)=>.ok (d,E)
 |some (.own false d)=>.ok (d,E.set i (.val d))
 |_=>.bad
noncomputable def gC(d:D):G:=λE=>.ok (d,E)
theorem Sim.share{τ:Addr}{F H:Hp}{σ:St}{E:Ev}{i:Nat}{t:Bool}{d:D}(S:Sim K H₀ τ F H σ E)(e:E[i]?=some (.own t d)) :
  ∃a F',σ[i]?=some (some (.ref a))/\Stp (owA σ E) F H F' H (owA σ (E.set i (.val d)))/\Sim K H₀ τ F' H σ (E.set i (.val d))/\Rep K F' (.ref a) d:=by
 obtain⟨a,h1,h2,h3,h4⟩:=S.own i t d e
 obtain⟨o,ho,_⟩:=h3.ho
 have hi:i<E.length:=(List.getElem?_eq_some_iff.mp e).1
 have l:Le F (upd F a o):=.of_gr (Gr.new h2)
 have old:∀(j:Nat) t d',(E.set i (.val d))[j]?=some (.own t d')->j≠i/\E[j]?=some (.own t d'):=λj t d' q=>by
  by_cases hj:i=j
  ·subst hj;rw[List.getElem?_set_self hi] at q;cases q
  ·rw[List.getElem?_set_ne hj] at q;exact⟨Ne.symm hj,q⟩
 refine⟨a,upd F a o,h1,⟨λ_ _ q _ _ _=>q,λ_ q=>q,l,λb u q=>?_,λb ⟨j,t',d',q1,q2⟩=>.inl ⟨j,t',d',(old j t' d' q1).2,q2⟩⟩,⟨λb u q=>?_,by rw[List.length_set];exact S.len,λj d' q=>?_,λj t' d' q=>?_,λj k t1 t2 d1 d2 b q1 q2=>S.inj j k t1 t2 d1 d2 b (old _ _ _ q1).2 (old _ _ _ q2).2⟩,h3.rep h2 ho⟩
 ·by_cases hb:b=a
  ·subst hb;exact .inr (.inr ⟨i,t,d,e,h1⟩)
  ·rw[zAE hb] at q;exact .inl (by rw[q];exact nofun)
 ·by_cases hb:b=a
  ·subst hb;rw[zAD] at q;rw[ho];exact q
  ·rw[zAE hb] at q;exact S.sub b u q
 ·by_cases hj:i=j
  ·subst hj;rw[List.getElem?_set_self hi] at q;cases q;exact⟨_,h1,h3.rep h2 ho⟩
  ·rw[List.getElem?_set_ne hj] at q
   obtain⟨v,z1,z2⟩:=S.val j d' q
   exact⟨v,z1,z2.le l⟩
 ·obtain⟨hj,q⟩:=old j t' d' q
  obtain⟨b,z1,z2,z3,z4⟩:=S.own j t' d' q
  refine⟨b,z1,?_,z3.mono l rfl,z4⟩
  rw[zAE (λz=>hj (S.inj j i t' t d' d a q e (by rw[z1,z]) h1))];exact z2
theorem zAC(i:Nat){x:Str}{pos:Pos}(hN:X.N[i]?=some x:=by rfl)(hv:Vis X.env.scope x:=by first|exact Or.inl rfl|exact Or.inr (Or.inl rfl)|exact Or.inr (Or.inr rfl))(hd:(x==("__debug__":Str))=false:=by decide)
  (hcd:(x==("__classdict__":Str))=false:=by decide):VE X (.Name x pos) (zAB i):=(zFF hN hv hd hcd).imp λσ H Q h=>by
 obtain⟨τ,F,E,d,E',S,hg,k⟩:=h
 unfold zAB at hg
 split at hg
 ·cases hg
  rename_i e
  obtain⟨v,h1,h2⟩:=S.val i _ e
  exact⟨v,h1,k v F H .refl S h2⟩
 ·cases hg
  rename_i e
  obtain⟨a,F',h1,h2,h3,h4⟩:=S.share e
  exact⟨_,h1,k _ F' H h2 h3 h4⟩
 ·cases hg
theorem yBO{v:V}{d:D}(r:∀F,Rep K F v d){σ:St}{H:Hp}{Q:VK}(h:tV K H₀ (gC d) σ H Q):tC v σ H Q:=by
 obtain⟨τ,F,E,d',E',S,hg,k⟩:=h
 cases hg
 exact k v F H .refl S (r F)
theorem zAP {i j pos}:VE X (.Constant (.int i) j pos) (gC (.int i)):=pe_int.imp λ_ _ _ h=>yBO (λ_=>.int i) h
theorem zVO {b j pos}:VE X (.Constant (.bool b) j pos) (gC (.bl b)):=pe_bl.imp λ_ _ _ h=>yBO (λ_=>.bl b) h
theorem zNI {j pos}:VE X (.Constant .none j pos) (gC .non):=pe_non.imp λ_ _ _ h=>yBO (λ_=>.non) h
noncomputable def g2(f:D->D->Out D)(ga gb:G):G:=λE=>(ga E).bind λp=>(gb p.2).bind λq=>(f p.1 q.1).bind λd=>.ok (d,q.2)
noncomputable def g1(f:D->Out D)(ga:G):G:=λE=>(ga E).bind λp=>(f p.1).bind λd=>.ok (d,p.2)
def OpS(K:PySem.W.Frag)(rd:R2)(f:D->D->Out D):Prop:=∀v u x y F H d Q,Sub F H->Rep K F v x->Rep K F u y->f x y=.ok d->(∀z F' H',New F H F' H'->Rep K F' z d->Q z H')->rd v u H Q
def UnS(K:PySem.W.Frag)(rd:V->Hp->VK->Prop)(f:D->Out D):Prop:=∀v x F H d Q,Sub F H->Rep K F v x->f x=.ok d->(∀z F' H',New F H F' H'->Rep K F' z d->Q z H')->rd v H Q
theorem zR7{rd:R2}{f:D->D->Out D}(hs:OpS K rd f){σ:St}{H:Hp}{Q:VK}(h:tV K H₀ (g2 f ga gb) σ H Q):tOp rd (tV K H₀ ga) (tV K H₀ gb) σ H Q:=by
 obtain⟨τ,F,E,d,E',S,hg,k⟩:=h
 obtain⟨p,ea,hg⟩:=Out.bind_ok hg
 obtain⟨q,eb,hg⟩:=Out.bind_ok hg
 obtain⟨z,ef,hg⟩:=Out.bind_ok hg
 cases hg
 refine⟨τ,F,E,p.1,p.2,S,ea,λv F1 H1 st1 S1 r1=>?_⟩
 refine⟨τ,F1,p.2,q.1,q.2,S1,eb,λu F2 H2 st2 S2 r2=>?_⟩
 exact hs v u p.1 q.1 F2 H2 d Q S2.sub (r1.le st2.le) r2 ef λz F3 H3 n r3=>k z F3 H3 ((st1.trans st2).trans n.stp) (S2.new n) r3
theorem yBP{rd:V->Hp->VK->Prop}{f:D->Out D}(hs:UnS K rd f){σ:St}{H:Hp}{Q:VK}(h:tV K H₀ (g1 f ga) σ H Q):tUn rd (tV K H₀ ga) σ H Q:=by
 obtain⟨τ,F,E,d,E',S,hg,k⟩:=h
 obtain⟨p,ea,hg⟩:=Out.bind_ok hg
 obtain⟨z,ef,hg⟩:=Out.bind_ok hg
 cases hg
 refine⟨τ,F,E,p.1,p.2,S,ea,λv F1 H1 st1 S1 r1=>?_⟩
 exact hs v p.1 F1 H1 d Q S1.sub r1 ef λz F3 H3 n r3=>k z F3 H3 (st1.trans n.stp) (S1.new n) r3
theorem zXS{op:Operator}{rd:R2}{f:D->D->Out D}(ho:OpR X (binaryOp op) rd)(hs:OpS X.K rd f)(ha:VE X a ga)(hb:VE X b gb):VE X (.BinOp a op b pos) (g2 f ga gb):=(zX9 ho ha hb).imp λ_ _ _ h=>zR7 hs h
theorem yDV{op:UnaryOp}{rd:V->Hp->VK->Prop}{f:D->Out D}(ho:UnR X (unaryOp op) rd)(hs:UnS X.K rd f)(ha:VE X a ga):VE X (.UnaryOp op a pos) (g1 f ga):=(yBB ho ha).imp λ_ _ _ h=>yBP hs h
theorem yBQ{op:CmpOp}{rd:R2}{f:D->D->Out D}(ho:OpR X (compareOp op) rd)(hs:OpS X.K rd f)(ha:VE X a ga)(hb:VE X b gb)(hm:behindInMarks op b=false):VE X (.Compare a [op] [b] pos) (g2 f ga gb):=(zU0 ho ha hb hm).imp λ_ _ _ h=>zR7 hs h
noncomputable def gB(g:G):Ev->Out (Bool×Ev):=λE=>(g E).bind λp=>match p.1 with|.bl b=>.ok (b,p.2)|_=>.bad
theorem zD6{op:CmpOp}{rd:R2}{f:D->D->Out D}(ho:OpR X (compareOp op) rd)(hs:OpS X.K rd f)(ha:VE X a ga)(hb:VE X b gb)(hm:behindInMarks op b=false):VT X (.Compare a [op] [b] pos) (gB (g2 f ga gb)):=(zU1 ho ha hb hm).imp λσ H Q h=>by
 obtain⟨τ,F,E,b',E',S,hg,k⟩:=h
 obtain⟨p,ea,hg⟩:=Out.bind_ok hg
 refine zR7 hs ⟨τ,F,E,p.1,p.2,S,ea,λv F1 H1 st1 S1 r1=>?_⟩
 split at hg
 ·rename_i b' eb
  cases hg
  rw[eb] at r1
  cases r1
  exact⟨_,rfl,k F1 H1 st1 S1⟩
 ·cases hg
noncomputable def zJL(t:Ev->Out (Bool×Ev)):Ev->Out (Bool×Ev):=λE=>(t E).bind λp=>.ok (!p.1,p.2)
noncomputable def zEZ(t u:Ev->Out (Bool×Ev)):Ev->Out (Bool×Ev):=λE=>(t E).bind λp=>if p.1=true then u p.2 else .ok (false,p.2)
noncomputable def zT3(t u:Ev->Out (Bool×Ev)):Ev->Out (Bool×Ev):=λE=>(t E).bind λp=>if p.1=true then .ok (true,p.2) else u p.2
theorem zT4{t:Ev->Out (Bool×Ev)}(h:VT X a t):VT X (.UnaryOp .Not a pos) (zJL t):=(zX1 h).imp λσ H Q q=>by
 obtain⟨τ,F,E,b',E',S,hg,k⟩:=q
 obtain⟨p,ea,hg⟩:=Out.bind_ok hg
 cases hg
 exact⟨τ,F,E,p.1,p.2,S,ea,λF1 H1 st1 S1=>k F1 H1 st1 S1⟩
abbrev VW(X:Cx)(e:Expr)(g:Ev->Out (Bool×Ev)):Prop:=PW X e (tT X.K X.H₀ g)
theorem VW.t{t:Ev->Out (Bool×Ev)}(h:VW X a t):VT X a t:=PW.pt h
theorem zHT{t:Ev->Out (Bool×Ev)}(h:VT X a t):VW X (.BoolOp .And [a] pos) t:=zUW h
theorem zY3{t:Ev->Out (Bool×Ev)}(h:VT X a t):VW X (.BoolOp .Or [a] pos) t:=zXZ h
theorem zMC{t u:Ev->Out (Bool×Ev)}{rest:List Expr}(h:VT X a t)(h':VW X (.BoolOp .And (b::rest) pos) u):VW X (.BoolOp .And (a::b::rest) pos) (zEZ t u):=(zX0 h h').imp λσ H Q q=>by
 obtain⟨τ,F,E,b',E',S,hg,k⟩:=q
 obtain⟨p,ea,hg⟩:=Out.bind_ok hg
 refine⟨τ,F,E,p.1,p.2,S,ea,λF1 H1 st1 S1=>?_⟩
 by_cases hp:p.1=true
 ·rw[if_pos hp] at hg ⊢
  exact⟨τ,F1,p.2,b',E',S1,hg,λF2 H2 st2 S2=>k F2 H2 (st1.trans st2) S2⟩
 ·rw[if_neg hp] at hg ⊢
  cases hg
  exact k F1 H1 st1 S1
theorem zY4{t u:Ev->Out (Bool×Ev)}{rest:List Expr}(h:VT X a t)(h':VW X (.BoolOp .Or (b::rest) pos) u):VW X (.BoolOp .Or (a::b::rest) pos) (zT3 t u):=(yA4 h h').imp λσ H Q q=>by
 obtain⟨τ,F,E,b',E',S,hg,k⟩:=q
 obtain⟨p,ea,hg⟩:=Out.bind_ok hg
 refine⟨τ,F,E,p.1,p.2,S,ea,λF1 H1 st1 S1=>?_⟩
 by_cases hp:p.1=true
 ·rw[if_pos hp] at hg ⊢
  cases hg
  exact k F1 H1 st1 S1
 ·rw[if_neg hp] at hg ⊢
  exact⟨τ,F1,p.2,b',E',S1,hg,λF2 H2 st2 S2=>k F2 H2 (st1.trans st2) S2⟩
noncomputable def gIf(t:Ev->Out (Bool×Ev))(ga gb:G):G:=λE=>(t E).bind λp=>if p.1=true then ga p.2 else gb p.2
end
def Thw(H₀ H H2:Hp):Prop:=∀a,H2 a=H a\/∃o u,H a=some (.frz o u)/\H2 a=some u/\zPE u/\∀o' u',H₀ a≠some (.frz o' u')
theorem Inv.thaw{X:Cx}{pins:List (Addr×Obj)}{σ:St}{H H2:Hp}{s:Shared}(I:Inv X pins σ H s)(t:Thw X.H₀ H H2):Inv X pins σ H2 s:=by
 have tn:∀a,H a=none->H2 a=none:=λa e=>by
  rcases t a with h|⟨o,u,h,_⟩
  ·rw[h,e]
  ·rw[e] at h;cases h
 have tk:∀a v,H a=some v->(∀o u,v≠.frz o u)->H2 a=some v:=λa v e n=>by
  rcases t a with h|⟨o,u,h,_⟩
  ·rw[h,e]
  ·rw[e] at h;cases h;exact absurd rfl (n o u)
 refine⟨I.ok,I.os,I.bare,⟨I.base.keep,I.base.slot,λb o e n hx=>tn b (I.base.free b o e n hx),I.base.there,λb xs e=>tk b _ (I.base.tups b xs e) (λ_ _ z=>HO.noConfusion z),λb o u e=>?_,λb t' ps e=>?_⟩,I.loc,I.cell,tn _ I.free,λx c e=>tn c (I.freeC x c e),λp hp=>?_,λb u e=>?_,I.len⟩
 ·rcases t b with h|⟨o',u',_,_,_,h⟩
  ·rw[h];exact I.base.frzs b o u e
  ·exact absurd e (h o u)
 ·obtain⟨m,h⟩:=I.base.tbls b t' ps e
  exact⟨m,tk b _ h (λ_ _ z=>HO.noConfusion z)⟩
 ·obtain⟨h1,h2,h3⟩:=I.pin p hp
  exact⟨h1,tn _ h2,h3⟩
 ·have ok:ObjOk X.prog X.w H s.heap b u:=by
   rcases t b with h|⟨o',u',h1,h2,_⟩
   ·exact I.hok b u (by rw[<-h];exact e)
   ·rw[e] at h2;cases h2
    obtain⟨_,q⟩:=I.hok b _ h1
    exact q
  exact ok.stay (λc v _ q=>q) (λc q=>tk c _ q (λ_ _ z=>HO.noConfusion z)) (λc ys q=>tk c _ q (λ_ _ z=>HO.noConfusion z)) λc o x q=>(t c).elim (λh=>h.trans q) λ⟨_,_,h,_,d,_⟩=>by rw[q] at h;cases h;exact d.elim
mutual
noncomputable def D.flat:D->Bool
 |.tup xs=>D.flats xs
 |.lst _=>false
 |.dk _=>false
 |.dt _=>false
 |_=>true
noncomputable def D.flats:List D->Bool
 |[]=>true
 |d::ds=>d.flat&&D.flats ds
end
mutual
noncomputable def D.nod:D->Bool
 |.tup xs=>D.nods xs
 |.lst xs=>D.nods xs
 |.dk _=>false
 |.dt _=>false
 |_=>true
noncomputable def D.nods:List D->Bool
 |[]=>true
 |d::ds=>d.nod&&D.nods ds
end
section
variable{K:PySem.W.Frag}{F F2:Hp}
mutual
theorem Rep.flat2(ht:∀a vs,F a=some (.tup vs)->F2 a=some (.tup vs)):∀{v:V} {d:D},Rep K F v d->d.flat=true->Rep K F2 v d
 |_,_,.non,_=>.non
 |_,_,.bl b,_=>.bl b
 |_,_,.int i,_=>.int i
 |_,_,.str x,_=>.str x
 |_,_,.tup h r,e=>.tup (ht _ _ h) (Reps.flat2 ht r (by rw[D.flat] at e;exact e))
 |_,_,.tupK h n,_=>.tupK h n
 |_,_,.lst _ _,e=>by rw[D.flat] at e;cases e
 |_,_,.dk _ _,e=>by rw[D.flat] at e;cases e
 |_,_,.dt _ _,e=>by rw[D.flat] at e;cases e
theorem Reps.flat2(ht:∀a vs,F a=some (.tup vs)->F2 a=some (.tup vs)):∀{v:List V} {d:List D},Reps K F v d->D.flats d=true->Reps K F2 v d
 |_,_,.nil,_=>.nil
 |_,_,.cons h r,e=>by
  rw[D.flats,Bool.and_eq_true] at e
  exact .cons (Rep.flat2 ht h e.1) (Reps.flat2 ht r e.2)
end
mutual
theorem Rep.nod2(ht:∀a vs,F a=some (.tup vs)->F2 a=some (.tup vs))(hl:∀a vs,SqL K F a vs->SqL K F2 a vs):∀{v:V} {d:D},Rep K F v d->d.nod=true->Rep K F2 v d
 |_,_,.non,_=>.non
 |_,_,.bl b,_=>.bl b
 |_,_,.int i,_=>.int i
 |_,_,.str x,_=>.str x
 |_,_,.tup h r,e=>.tup (ht _ _ h) (Reps.nod2 ht hl r (by rw[D.nod] at e;exact e))
 |_,_,.tupK h n,_=>.tupK h n
 |_,_,.lst h r,e=>.lst (hl _ _ h) (Reps.nod2 ht hl r (by rw[D.nod] at e;exact e))
 |_,_,.dk _ _,e=>by rw[D.nod] at e;cases e
 |_,_,.dt _ _,e=>by rw[D.nod] at e;cases e
theorem Reps.nod2(ht:∀a vs,F a=some (.tup vs)->F2 a=some (.tup vs))(hl:∀a vs,SqL K F a vs->SqL K F2 a vs):∀{v:List V} {d:List D},Reps K F v d->D.nods d=true->Reps K F2 v d
 |_,_,.nil,_=>.nil
 |_,_,.cons h r,e=>by
  rw[D.nods,Bool.and_eq_true] at e
  exact .cons (Rep.nod2 ht hl h e.1) (Reps.nod2 ht hl r e.2)
end
end
noncomputable def zE0(is:List Nat)(j:Nat):Sl->Sl
 |.own _ d=>if is.contains j then .val d else .no
 |s=>s
noncomputable def zHU(is:List Nat):Nat->Ev->Ev
 |_,[]=>[]
 |j,s::E=>zE0 is j s::zHU is (j+1) E
noncomputable abbrev zDO(is:List Nat)(E:Ev):Ev:=zHU is 0 E
theorem zJM(is:List Nat):∀(E:Ev) (k j:Nat),(zHU is k E)[j]?=(E[j]?).map (zE0 is (k+j))
 |[],_,_=>by simp[zHU]
 |s::E,k,0=>by simp[zHU]
 |s::E,k,j+1=>by
  show(zHU is (k+1) E)[j]?=_
  rw[zJM is E (k+1) j,List.getElem?_cons_succ,show k+1+j=k+(j+1) by lia]
theorem zMD(is:List Nat)(E:Ev)(j:Nat):(zDO is E)[j]?=(E[j]?).map (zE0 is j):=by rw[zJM];simp
theorem zJN(is:List Nat):∀(E:Ev) (k:Nat),(zHU is k E).length=E.length
 |[],_=>rfl
 |s::E,k=>by rw[zHU,List.length_cons,List.length_cons,zJN is E (k+1)]
noncomputable def yAV:Option Sl->Bool
 |some (.own _ (.lst _))=>true
 |_=>false
noncomputable def yC3:Option Sl->Bool
 |some (.own _ (.dk _))=>true
 |some (.own _ (.dt _))=>true
 |_=>false
noncomputable def zD7(is:List Nat)(E:Ev)(d:D):Bool:=(!(is.any λi=>yAV E[i]?)||d.flat)&&(!(is.any λi=>yC3 E[i]?)||d.nod)
noncomputable def zD8(is:List Nat)(g:G):G:=λE=>(g (zDO is E)).bind λp=>if zD7 is E p.1=true then .ok (p.1,E) else .bad
noncomputable def zBY(is:List Nat)(g:Ev->Out (Bool×Ev)):Ev->Out (Bool×Ev):=λE=>(g (zDO is E)).bind λp=>.ok (p.1,E)
section
variable{X:Cx}{K:PySem.W.Frag}{H₀ F H F' H':Hp}{τ:Addr}{σ:St}{E:Ev}{is:List Nat}
def Lent(σ:St)(E:Ev)(is:List Nat)(a:Addr):Prop:=∃(i:Nat) (t:Bool) (d:D),i∈is/\E[i]?=some (Sl.own t d)/\σ[i]?=some (some (V.ref a))
theorem Lent.ow{a:Addr}(h:Lent σ E is a):owA σ E a:=let ⟨i,t,d,_,e,q⟩:=h;⟨i,t,d,e,q⟩
theorem Sim.owned(S:Sim K H₀ τ F H σ E){a:Addr}(h:owA σ E a):F a=none/\(∃o,H a=some o/\zJK o)/\∀o u,H₀ a≠some (.frz o u):=by
 obtain⟨i,t,d,e,q⟩:=h
 obtain⟨b,h1,h2,h3,h4,_⟩:=S.own i t d e
 rw[q] at h1;cases h1
 exact⟨h2,h3.ho,h4⟩
open Classical in
noncomputable def zK6(σ:St)(E:Ev)(is:List Nat)(F H:Hp):Hp:=λa=>if Lent σ E is a then H a else F a
open Classical in
noncomputable def zJO(σ:St)(E:Ev)(is:List Nat)(F':Hp):Hp:=λa=>if Lent σ E is a then none else F' a
open Classical in
noncomputable def zN1(σ:St)(E:Ev)(is:List Nat)(H H':Hp):Hp:=λa=>if Lent σ E is a then H a else H' a
theorem Sim.lend(S:Sim K H₀ τ F H σ E)(is:List Nat):Sim K H₀ τ (zK6 σ E is F H) H σ (zDO is E)/\∀a,¬owA σ (zDO is E) a:=by
 have l:Le F (zK6 σ E is F H):=λa u e=>by
  refine .inl ?_
  unfold zK6
  split
  ·exact S.sub a u e
  ·exact e
 have no:∀(i:Nat) t d,(zDO is E)[i]?≠some (.own t d):=λi t d e=>by
  rw[zMD] at e
  cases q:E[i]? with
  |none=>rw[q] at e;cases e
  |some s =>
   rw[q] at e
   have e:zE0 is i s=.own t d:=Option.some.inj e
   cases s with
   |no=>cases e
   |val _=>cases e
   |own t' d' =>
    by_cases hc:is.contains i=true
    ·rw[show zE0 is i (.own t' d')=.val d' from if_pos hc] at e;cases e
    ·rw[show zE0 is i (.own t' d')=.no from if_neg hc] at e;cases e
 refine⟨⟨λa u e=>?_,by rw[zJN];exact S.len,λi d e=>?_,λi t d e=>absurd e (no i t d),λi j t u d d' a e=>absurd e (no i t d)⟩,λa ⟨i,t,d,e,_⟩=>no i t d e⟩
 ·unfold zK6 at e
  split at e
  ·exact e
  ·exact S.sub a u e
 ·rw[zMD] at e
  cases q:E[i]? with
  |none=>rw[q] at e;cases e
  |some s =>
   rw[q] at e
   have e:zE0 is i s=.val d:=Option.some.inj e
   cases s with
   |no=>cases e
   |val d' =>
    cases e
    obtain⟨v,h1,h2⟩:=S.val i d q
    exact⟨v,h1,h2.le l⟩
   |own t' d' =>
    by_cases hc:is.contains i=true
    ·rw[show zE0 is i (.own t' d')=.val d' from if_pos hc] at e
     cases e
     obtain⟨a,h1,h2,h3,_⟩:=S.own i t' d q
     obtain⟨o,ho,_⟩:=h3.ho
     refine⟨.ref a,h1,(h3.rep h2 ho).le λb u e=>.inl ?_⟩
     have la:Lent σ E is a:=⟨i,t',d,by simpa using hc,q,h1⟩
     by_cases hb:b=a
     ·subst hb
      rw[zAD] at e
      unfold zK6
      rw[if_pos la,ho];exact e
     ·rw[zAE hb] at e
      unfold zK6
      split
      ·exact S.sub b u e
      ·exact e
    ·rw[show zE0 is i (.own t' d')=.no from if_neg hc] at e;cases e
theorem Sim.back (S : Sim K H₀ τ F H σ E) (is : List Nat) {ow' : Addr → Prop} (st : Stp (fun _ => False) (zK6 σ E is F H) H F' H' ow') (sb : Sub F' H') :
    Thw H₀ H' (zN1 σ E is H H') ∧ Stp (owA σ E) F H (zJO σ E is F') (zN1 σ E is H H') (owA σ E) ∧ Sim K H₀ τ (zJO σ E is F') (zN1 σ E is H H') σ E ∧
    (∀ a u, F' a = some u → (∀ o w, zJK o → u ≠ o ∧ u ≠ .frz w o) → zJO σ E is F' a = some u) ∧
    ((is.any fun i => yAV E[i]?) = false → ∀ a vs, SqL K F' a vs → SqL K (zJO σ E is F') a vs) := by
  have lh : ∀ a, Lent σ E is a → ∃ o, H a = some o ∧ zJK o ∧ (F' a = some o ∨ (zPE o ∧ ∃ w, F' a = some (.frz w o))) := fun a h => by
    obtain ⟨_, ⟨o, ho, hw⟩, _⟩ := S.owned h.ow
    refine ⟨o, ho, hw, (st.le a o ?_).imp_right fun z => z.resolve_right fun ⟨_, _, _, y, _⟩ => by subst y; exact hw⟩
    unfold zK6
    rw [if_pos h]; exact ho
  have l2 : Le F (zJO σ E is F') := fun a u e => by
    have hn : ¬ Lent σ E is a := fun h => by rw [(S.owned h.ow).1] at e; cases e
    unfold zJO
    rw [if_neg hn]
    exact st.le a u (by unfold zK6; rw [if_neg hn]; exact e)
  have kp : ∀ a o, H a = some o → zJK o → F a = none → zN1 σ E is H H' a = some o := fun a o e hw n => by
    unfold zN1
    by_cases h : Lent σ E is a
    · rw [if_pos h]; exact e
    · rw [if_neg h]; exact st.keep a o e hw (by unfold zK6; rw [if_neg h]; exact n) id
  have nw : ∀ a o, zJO σ E is F' a = some o → F a ≠ none ∨ Nw H a := fun a o e => by
    unfold zJO at e
    by_cases h : Lent σ E is a
    · rw [if_pos h] at e; cases e
    · rw [if_neg h] at e
      rcases st.new a o e with z | z | z
      · unfold zK6 at z; rw [if_neg h] at z; exact .inl z
      · exact .inr z
      · exact z.elim
  refine ⟨fun a => ?_, ⟨fun a o e hw n _ => kp a o e hw n, fun a e => ?_, l2, fun a o e => (nw a o e).imp_right .inl, fun _ h => .inl h⟩, ⟨fun a u e => ?_, S.len, fun i d e => ?_, fun i t d e => ?_, S.inj⟩, fun a u e hn => ?_, fun hl a vs h => ?_⟩
  · by_cases h : Lent σ E is a
    · obtain ⟨o, ho, _, z | ⟨id, w, z⟩⟩ := lh a h
      · exact .inl (by unfold zN1; rw [if_pos h, sb a o z, ho])
      · exact .inr ⟨w, o, sb a _ z, by unfold zN1; rw [if_pos h, ho], id, (S.owned h.ow).2.2⟩
    · exact .inl (by unfold zN1; rw [if_neg h])
  · unfold zN1 at e
    by_cases h : Lent σ E is a
    · rw [if_pos h] at e; exact e
    · rw [if_neg h] at e; exact st.dom a e
  · unfold zJO at e
    by_cases h : Lent σ E is a
    · rw [if_pos h] at e; cases e
    · rw [if_neg h] at e
      unfold zN1
      rw [if_neg h]; exact sb a u e
  · obtain ⟨v, h1, h2⟩ := S.val i d e
    exact ⟨v, h1, h2.le l2⟩
  · obtain ⟨a, h1, h2, h3, h4⟩ := S.own i t d e
    obtain ⟨o, ho, hw⟩ := h3.ho
    refine ⟨a, h1, ?_, h3.mono l2 ((kp a o ho hw h2).trans ho.symm), h4⟩
    cases q : zJO σ E is F' a with
    | none => rfl
    | some u => rcases nw a u q with z | z
                · exact absurd h2 z
                · exact absurd hw (z o ho)
  · unfold zJO
    by_cases h : Lent σ E is a
    · obtain ⟨o, ho, hw, z | ⟨_, w, z⟩⟩ := lh a h
      · rw [e] at z; cases z; exact absurd rfl (hn u default hw).1
      · rw [e] at z; cases z; exact absurd rfl (hn o w hw).2
    · rw [if_neg h]; exact e
  · rcases h with h | h
    case inr => exact .inr h
    refine .inl ?_
    have hn : ¬ Lent σ E is a := fun hh => by
      obtain ⟨o, ho, hw, z⟩ := lh a hh
      obtain ⟨i, t, d, hi, e, q⟩ := id hh
      have hld : yAV E[i]? = false := by
        have := List.any_eq_false.mp hl i hi
        simpa using this
      obtain ⟨b, h1, h2, h3, _⟩ := S.own i t d e
      rw [q] at h1; cases h1
      have od : zPE o := by
        cases d with
        | lst ds => rw [e] at hld; cases hld
        | dk ds => obtain ⟨_, q, _⟩ := h3; rw [ho] at q; cases q; trivial
        | dt ds => obtain ⟨_, q, _⟩ := h3; rw [ho] at q; cases q; trivial
        | _ => exact h3.elim
      rcases h with h | ⟨w, h⟩ <;> rcases z with z | ⟨_, w', z⟩ <;> rw [h] at z <;> cases z <;> exact od
    unfold Rd zJO
    rw [if_neg hn]
    exact h
theorem zR8(S:Sim K H₀ τ F H σ E)(is:List Nat){ow':Addr->Prop}(st:Stp (λ_=>False) (zK6 σ E is F H) H F' H' ow')(sb:Sub F' H'){v:V}{d:D}(hl:zD7 is E d=true)(r:Rep K F' v d):Rep K (zJO σ E is F') v d:=by
 obtain⟨_,_,_,h1,h2⟩:=S.back is st sb
 have ht:∀a vs,F' a=some (.tup vs)->zJO σ E is F' a=some (.tup vs):=λa vs e=>h1 a _ e λo w ho=>⟨λz=>by subst z;exact ho,λz=>HO.noConfusion z⟩
 unfold zD7 at hl
 rw[Bool.and_eq_true,Bool.or_eq_true,Bool.or_eq_true] at hl
 rcases hl.1 with z|z
 ·rcases hl.2 with y|y
  ·-- nothing is lent at all
   have no:∀a,¬Lent σ E is a:=λa ⟨i,t,d,hi,e,q⟩=>by
    have e1:yAV E[i]?=false:=by have:=List.any_eq_false.mp (by simpa using z) i hi;simpa using this
    have e2:yC3 E[i]?=false:=by have:=List.any_eq_false.mp (by simpa using y) i hi;simpa using this
    obtain⟨b,_,_,h3,_⟩:=S.own i t d e
    rw[e] at e1 e2
    cases d with
    |lst ds=>cases e1
    |dk ds=>cases e2
    |dt ds=>cases e2
    |_=>exact h3.elim
   exact r.le λa u e=>.inl (by unfold zJO;rw[if_neg (no a)];exact e)
  ·exact Rep.nod2 ht (h2 (by simpa using z)) r y
 ·exact Rep.flat2 ht r z
theorem Stp.toF{ow ow':Addr->Prop}(h:∀a,¬ow a)(st:Stp ow F H F' H' ow'):Stp (λ_=>False) F H F' H' ow' :=
 ⟨λa o e hw n _=>st.keep a o e hw n (h a),st.dom,st.le,λa o e=>(st.new a o e).imp_right λz=>z.imp_right (h a),λa z=>(st.own a z).elim (λz=>absurd z (h a)) .inr⟩
theorem zE1{e:Expr}{g:G}(is:List Nat)(h:VE X e g):VE X e (zD8 is g):=by
 intro pins s σ H Q I ⟨τ,F,E,d,E',S,hg,k⟩
 obtain⟨p,eg,hg⟩:=Out.bind_ok hg
 split at hg
 ·rename_i hl
  cases hg
  obtain⟨S1,no⟩:=S.lend is
  refine thn (h pins s σ H (λv H'=>∃F' ow',Stp (λ_=>False) (zK6 σ E is F H) H F' H' ow'/\Sub F' H'/\Rep X.K F' v p.1) I ⟨τ,_,_,p.1,p.2,S1,eg,λv F' H' st S' r=>⟨F',_,st.toF no,S'.sub,r⟩⟩) λu s' ⟨v,H',I',rv,F',ow',st,sb,r⟩=>?_
  obtain⟨t1,t2,t3,_⟩:=S.back is st sb
  exact⟨v,_,I'.thaw t1,rv,k v _ _ t2 t3 (zR8 S is st sb hl r)⟩
 ·cases hg
theorem zD9{e:Expr}{g:Ev->Out (Bool×Ev)}(is:List Nat)(h:VT X e g):VT X e (zBY is g):=by
 intro pins s σ H Q I ⟨τ,F,E,d,E',S,hg,k⟩
 obtain⟨p,eg,hg⟩:=Out.bind_ok hg
 cases hg
 obtain⟨S1,no⟩:=S.lend is
 refine thn (h pins s σ H (λb H'=>b=p.1/\∃F' ow',Stp (λ_=>False) (zK6 σ E is F H) H F' H' ow'/\Sub F' H') I ⟨τ,_,_,p.1,p.2,S1,eg,λF' H' st S'=>⟨rfl,F',_,st.toF no,S'.sub⟩⟩) λu s' ⟨H',I',eb,F',ow',st,sb⟩=>?_
 obtain⟨t1,t2,t3,_⟩:=S.back is st sb
 subst eb
 exact⟨_,I'.thaw t1,k _ _ t2 t3⟩
end
inductive Fl where
 |nx (E:Ev)|rt (b:Bool) (d:D) (E:Ev)|bk (E:Ev)|ct (E:Ev)
abbrev GS:=Ev->Out Fl
def RetR(K:PySem.W.Frag)(ow:Addr->Prop)(H:Hp)(F' H':Hp)(σ':St)(E':Ev):Bool->V->D->Prop
 |false,v,d=>Rep K F' v d
 |true,v,d=>∃a,v=.ref a/\F' a=none/\OwnAt K F' H' a d/\(ow a\/H a=none)/\∀(i:Nat) d',E'[i]?=some (.own true d')->σ'[i]?≠some (some (.ref a))
def FlOk(K:PySem.W.Frag)(H₀:Hp)(τ:Addr)(ow:Addr->Prop)(F H:Hp)(D:Ends):Fl->Prop
 |.nx E'=>∀σ' F' H',Stp ow F H F' H' (owA σ' E')->Sim K H₀ τ F' H' σ' E'->D.nx σ' H'
 |.bk E'=>∀σ' F' H',Stp ow F H F' H' (owA σ' E')->Sim K H₀ τ F' H' σ' E'->D.bk σ' H'
 |.ct E'=>∀σ' F' H',Stp ow F H F' H' (owA σ' E')->Sim K H₀ τ F' H' σ' E'->D.ct σ' H'
 |.rt b d E'=>∀σ' v F' H',Stp ow F H F' H' (owA σ' E')->Sim K H₀ τ F' H' σ' E'->RetR K ow H F' H' σ' E' b v d->D.rt v H'
def tS(K:PySem.W.Frag)(H₀:Hp)(g:GS):TS:=λD σ H=>∃τ F E r,Sim K H₀ τ F H σ E/\g E=.ok r/\FlOk K H₀ τ (owA σ E) F H D r
abbrev VS(X:Cx)(st:Stmt)(g:GS):Prop:=PS X st (tS X.K X.H₀ g)
abbrev VSs(X:Cx)(st:List Stmt)(g:GS):Prop:=PSs X st (tS X.K X.H₀ g)
section
variable{X:Cx}{K:PySem.W.Frag}{H₀ F H F1 H1:Hp}{τ:Addr}{ow ow1:Addr->Prop}{D':Ends}{st:Stmt}{rest:List Stmt}{g g':GS}{pos:Pos}{e:Expr}{ge:G}
theorem RetR.pre{F' H':Hp}{σ':St}{E':Ev}{b:Bool}{v:V}{d:D}(s:Stp ow F H F1 H1 ow1)(h:RetR K ow1 H1 F' H' σ' E' b v d):RetR K ow H F' H' σ' E' b v d:=by
 cases b with
 |false=>exact h
 |true =>
  obtain⟨a,h1,h2,h3,h4,h5⟩:=h
  exact⟨a,h1,h2,h3,h4.elim (s.own a) λz=>.inr (s.dom a z),h5⟩
theorem FlOk.pre{r:Fl}(s:Stp ow F H F1 H1 ow1)(h:FlOk K H₀ τ ow F H D' r):FlOk K H₀ τ ow1 F1 H1 D' r:=by
 cases r with
 |nx E'=>exact λσ' F' H' st S=>h σ' F' H' (s.trans st) S
 |bk E'=>exact λσ' F' H' st S=>h σ' F' H' (s.trans st) S
 |ct E'=>exact λσ' F' H' st S=>h σ' F' H' (s.trans st) S
 |rt b d E'=>exact λσ' v F' H' st S q=>h σ' v F' H' (s.trans st) S (q.pre s)
noncomputable def gNx:GS:=λE=>.ok (.nx E)
noncomputable def zA2(g g':GS):GS:=λE=>(g E).bind λr=>match r with|.nx E1=>g' E1|r=>.ok r
theorem zBZ:VSs X [] gNx:=pss_nil.imp λD' σ H h=>by
 obtain⟨τ,F,E,r,S,hg,k⟩:=h
 cases hg
 exact k σ F H .refl S
theorem zY5{σ:St}(h:tS K H₀ (zA2 g g') D' σ H):zX3 (tS K H₀ g) (tS K H₀ g') D' σ H:=by
 obtain⟨τ,F,E,r,S,hg,k⟩:=h
 obtain⟨r1,e1,hg⟩:=Out.bind_ok hg
 refine⟨τ,F,E,r1,S,e1,?_⟩
 cases r1 with
 |nx E1=>exact λσ' F' H' st S'=>⟨τ,F',E1,r,S',hg,k.pre st⟩
 |bk E1=>cases hg;exact k
 |ct E1=>cases hg;exact k
 |rt b d E1=>cases hg;exact k
theorem zAG(h1:VS X st g)(h2:VSs X rest g'):VSs X (st::rest) (zA2 g g'):=(zCW h1 h2).imp λ_ _ _ h=>zY5 h
theorem zAN(h:VS X st g):VSs X [st] g:=zDT h
noncomputable def yC4:GS:=λ_=>.bad
theorem zY6:VS X st yC4:=ps_never.imp λD' σ H h=>by
 obtain⟨τ,F,E,r,S,hg,k⟩:=h
 cases hg
noncomputable def zE7(t:Ev->Out (Bool×Ev))(g g':GS):GS:=λE=>(t E).bind λp=>if p.1=true then g p.2 else g' p.2
theorem zE2{c:Expr}{a b:List Stmt}{t:Ev->Out (Bool×Ev)}(hc:VT X c t)(ha:VSs X a g)(hb:VSs X b g'):VS X (.If c a b pos) (zE7 t g g'):=(zX5 hc ha hb).imp λD' σ H h=>by
 obtain⟨τ,F,E,r,S,hg,k⟩:=h
 obtain⟨p,e1,hg⟩:=Out.bind_ok hg
 refine⟨τ,F,E,p.1,p.2,S,e1,λF1 H1 s1 S1=>?_⟩
 by_cases hp:p.1=true
 ·rw[if_pos hp] at hg ⊢
  exact⟨τ,F1,p.2,r,S1,hg,k.pre s1⟩
 ·rw[if_neg hp] at hg ⊢
  exact⟨τ,F1,p.2,r,S1,hg,k.pre s1⟩
noncomputable def zF4(g:G):GS:=λE=>(g E).bind λp=>.ok (.rt false p.1 p.2)
theorem zBW(h:VE X e ge):VS X (.Return (some e) pos) (zF4 ge):=(zN7 h).imp λD' σ H q=>by
 obtain⟨τ,F,E,r,S,hg,k⟩:=q
 obtain⟨p,e1,hg⟩:=Out.bind_ok hg
 cases hg
 exact⟨τ,F,E,p.1,p.2,S,e1,λv F1 H1 s1 S1 r1=>k σ v F1 H1 s1 S1 r1⟩
noncomputable def zR9(g:G):GS:=λE=>(g E).bind λp=>.ok (.rt true p.1 p.2)
theorem zPF(h:FE X e ge):VS X (.Return (some e) pos) (zR9 ge):=(zN7 h).imp λD' σ H q=>by
 obtain⟨τ,F,E,r,S,hg,k⟩:=q
 obtain⟨p,e1,hg⟩:=Out.bind_ok hg
 cases hg
 exact⟨τ,F,E,p.1,p.2,S,e1,λa F1 H1 s1 S1 n1 n2 ow no=>k σ _ F1 H1 s1 S1 ⟨a,rfl,n1,ow,.inr n2,λi d' z1 z2=>no ⟨i,true,d',z1,z2⟩⟩⟩
inductive Tg where
 |nm (i:Nat)|tp (ts:List Tg)
mutual
noncomputable def gTg:Tg->D->Ev->Out Ev
 |.nm i,d,E=>.ok (E.set i (.val d))
 |.tp ts,d,E=>match d with
  |.tup ds=>zPG ts ds E
  |_=>.bad
noncomputable def zPG:List Tg->List D->Ev->Out Ev
 |[],[],E=>.ok E
 |[],_::_,_=>.bad
 |_::_,[],_=>.bad
 |t::ts,d::ds,E=>(gTg t d E).bind λE1=>zPG ts ds E1
end
mutual
noncomputable def Tg.ltn(n:Nat):Tg->Bool
 |.nm i=>decide (i<n)
 |.tp ts=>Tg.ltns n ts
noncomputable def Tg.ltns(n:Nat):List Tg->Bool
 |[]=>true
 |t::ts=>t.ltn n&&Tg.ltns n ts
end
theorem Sim.put{σ:St}{E:Ev}{i:Nat}{v:V}{d:D}(S:Sim K H₀ τ F H σ E)(r:Rep K F v d):Sim K H₀ τ F H (σ.set i (some v)) (E.set i (.val d))/\∀a,owA (σ.set i (some v)) (E.set i (.val d)) a->owA σ E a:=by
 have old:∀(j:Nat) t d',(E.set i (.val d))[j]?=some (.own t d')->i≠j/\E[j]?=some (.own t d'):=λj t d' q=>by
  by_cases hj:i=j
  ·subst hj
   by_cases hi:i<E.length
   ·rw[List.getElem?_set_self hi] at q;cases q
   ·rw[List.getElem?_eq_none (by rw[List.length_set];lia)] at q;cases q
  ·rw[List.getElem?_set_ne hj] at q;exact⟨hj,q⟩
 refine⟨⟨S.sub,by rw[List.length_set,List.length_set];exact S.len,λj d' q=>?_,λj t d' q=>?_,λj k t1 t2 d1 d2 b q1 q2 z1 z2=>?_⟩,λa ⟨j,t,d',q1,q2⟩=>?_⟩
 ·by_cases hj:i=j
  ·subst hj
   have hi:i<E.length:=by
    have:=(List.getElem?_eq_some_iff.mp q).1
    rw[List.length_set] at this;exact this
   rw[List.getElem?_set_self hi] at q;cases q
   exact⟨v,by rw[List.getElem?_set_self (by rw[<-S.len];exact hi)],r⟩
  ·rw[List.getElem?_set_ne hj] at q ⊢;exact S.val j d' q
 ·obtain⟨hj,q⟩:=old j t d' q
  rw[List.getElem?_set_ne hj];exact S.own j t d' q
 ·obtain⟨hj,q1⟩:=old j _ _ q1
  obtain⟨hk,q2⟩:=old k _ _ q2
  rw[List.getElem?_set_ne hj] at z1
  rw[List.getElem?_set_ne hk] at z2
  exact S.inj j k t1 t2 d1 d2 b q1 q2 z1 z2
 ·obtain⟨hj,q1⟩:=old j t d' q1
  rw[List.getElem?_set_ne hj] at q2
  exact⟨j,t,d',q1,q2⟩
theorem Sim.putO{σ:St}{E:Ev}{i:Nat}{a:Addr}{d:D}(S:Sim K H₀ τ F H σ E)(h2:F a=none)(h3:OwnAt K F H a d)(h4:∀o u,H₀ a≠some (.frz o u))(no:¬owA σ E a) :
  Sim K H₀ τ F H (σ.set i (some (.ref a))) (E.set i (.own false d))/\∀b,owA (σ.set i (some (.ref a))) (E.set i (.own false d)) b->owA σ E b\/b=a:=by
 have old:∀(j:Nat) t d',(E.set i (.own false d))[j]?=some (.own t d')->(i=j/\t=false/\d'=d/\(σ.set i (some (V.ref a)))[j]?=some (some (.ref a)))\/(i≠j/\E[j]?=some (.own t d')/\(σ.set i (some (V.ref a)))[j]?=σ[j]?):=λj t d' q=>by
  by_cases hj:i=j
  ·subst hj
   have hi:i<E.length:=by
    have:=(List.getElem?_eq_some_iff.mp q).1
    rw[List.length_set] at this;exact this
   rw[List.getElem?_set_self hi] at q;cases q
   exact .inl ⟨rfl,rfl,rfl,by rw[List.getElem?_set_self (by rw[<-S.len];exact hi)]⟩
  ·rw[List.getElem?_set_ne hj] at q;exact .inr ⟨hj,q,by rw[List.getElem?_set_ne hj]⟩
 refine⟨⟨S.sub,by rw[List.length_set,List.length_set];exact S.len,λj d' q=>?_,λj t d' q=>?_,λj k t1 t2 d1 d2 b q1 q2 z1 z2=>?_⟩,λb ⟨j,t,d',q1,q2⟩=>?_⟩
 ·by_cases hj:i=j
  ·subst hj
   have hi:i<E.length:=by
    have:=(List.getElem?_eq_some_iff.mp q).1
    rw[List.length_set] at this;exact this
   rw[List.getElem?_set_self hi] at q;cases q
  ·rw[List.getElem?_set_ne hj] at q ⊢;exact S.val j d' q
 ·rcases old j t d' q with⟨rfl,rfl,rfl,z⟩|⟨hj,q,z⟩
  ·exact⟨a,z,h2,h3,h4,nofun⟩
  ·rw[z];exact S.own j t d' q
 ·rcases old j t1 d1 q1 with⟨e1,_,_,y1⟩|⟨hj,p1,y1⟩<;>rcases old k t2 d2 q2 with⟨e2,_,_,y2⟩|⟨hk,p2,y2⟩
  ·rw[<-e1,<-e2]
  ·rw[y1] at z1;cases z1
   rw[y2] at z2
   exact absurd ⟨k,t2,d2,p2,z2⟩ no
  ·rw[y2] at z2;cases z2
   rw[y1] at z1
   exact absurd ⟨j,t1,d1,p1,z1⟩ no
  ·rw[y1] at z1;rw[y2] at z2
   exact S.inj j k t1 t2 d1 d2 b p1 p2 z1 z2
 ·rcases old j t d' q1 with⟨rfl,rfl,rfl,y1⟩|⟨hj,q1,y1⟩
  ·rw[y1] at q2;cases q2;exact .inr rfl
  ·rw[y1] at q2;exact .inl ⟨j,t,d',q1,q2⟩
def tG(K:PySem.W.Frag)(H₀:Hp)(t:Tg):TG:=λv σ H Q=>∃τ F E d E',Sim K H₀ τ F H σ E/\Rep K F v d/\gTg t d E=.ok E'/\∀σ',Sim K H₀ τ F H σ' E'->(∀a,owA σ' E' a->owA σ E a)->(∀n,t.ltn n=true->∀j:Nat,n<=j->σ'[j]?=σ[j]?)->Q σ' H
def tGs(K:PySem.W.Frag)(H₀:Hp)(ts:List Tg):TGs:=λvs σ H Q=>∃τ F E ds E',Sim K H₀ τ F H σ E/\Reps K F vs ds/\zPG ts ds E=.ok E'/\∀σ',Sim K H₀ τ F H σ' E'->(∀a,owA σ' E' a->owA σ E a)->(∀n,Tg.ltns n ts=true->∀j:Nat,n<=j->σ'[j]?=σ[j]?)->Q σ' H
theorem PG.imp{tg:Expr}{t t':TG}(h:PG X tg t)(hi:∀v σ H Q,t' v σ H Q->t v σ H Q):PG X tg t':=λpins s σ H x u Q I r q=>h pins s σ H x u Q I r (hi _ _ _ _ q)
theorem PGs.imp{tg:List Expr}{t t':TGs}(h:PGs X tg t)(hi:∀v σ H Q,t' v σ H Q->t v σ H Q):PGs X tg t':=λpins s σ H x u Q I r q=>h pins s σ H x u Q I r (hi _ _ _ _ q)
abbrev VG(X:Cx)(tg:Expr)(t:Tg):Prop:=PG X tg (tG X.K X.H₀ t)
abbrev VGs(X:Cx)(tg:List Expr)(t:List Tg):Prop:=PGs X tg (tGs X.K X.H₀ t)
theorem zAW{i:Nat}{x:Str}(hN:X.N.Nodup)(hi:X.N[i]?=some x)(hx:Loc X.env.scope x)(hf:X.fn x=true\/X.env.scope.names.lookup x=some .local:=by first|exact .inl rfl|exact .inr rfl|assumption):VG X (.Name x pos) (.nm i):=(zCX hN hi hx hf).imp λv σ H Q h=>by
 obtain⟨τ,F,E,d,E',S,r,hg,k⟩:=h
 rw[gTg] at hg
 cases hg
 obtain⟨S1,h1⟩:=S.put (i:=i) r
 refine k _ S1 h1 λn hn j hj=>?_
 rw[Tg.ltn] at hn
 have:i<n:=of_decide_eq_true hn
 rw[List.getElem?_set_ne (by lia)]
theorem Rep.sqT{a:Addr}{ds:List D}(s:Sub F H)(r:Rep K F (.ref a) (.tup ds)):∃vs,SqT K H a vs/\Reps K F vs ds:=by
 cases r with
 |tup h r=>exact⟨_,.inl (.inl (s _ _ h)),r⟩
 |@tupK _ xs h n =>
  rcases h with h|h
  ·rcases h with h|⟨o,h⟩<;>cases h
  ·refine⟨_,.inr h,?_⟩
   induction xs with
   |nil=>exact .nil
   |cons x xs ih=>exact .cons (.str x) (by
     clear ih n h
     induction xs with
     |nil=>exact .nil
     |cons y ys ih=>exact .cons (.str y) ih)
theorem Rep.isRefT{v:V}{ds:List D}(r:Rep K F v (.tup ds)):∃a,v=.ref a:=by (first|obtain rfl:=r.vI|obtain rfl:=r.vB|obtain rfl:=r.vS|obtain rfl:=r.vN|cases r)<;>exact⟨_,rfl⟩
theorem Rep.isRefL{v:V}{ds:List D}(r:Rep K F v (.lst ds)):∃a vs,v=.ref a/\SqL K F a vs/\Reps K F vs ds:=by cases r with|lst h r=>exact⟨_,_,rfl,h,r⟩
theorem zME:∀{ts:List Tg} {ds:List D} {E E':Ev},zPG ts ds E=.ok E'->ts.length=ds.length
 |[],[],_,_,_=>rfl
 |[],_::_,_,_,h=>by rw[zPG] at h;cases h
 |_::_,[],_,_,h=>by rw[zPG] at h;cases h
 |t::ts,d::ds,E,E',h=>by
  rw[zPG] at h
  obtain⟨E1,_,h⟩:=Out.bind_ok h
  rw[List.length_cons,List.length_cons,zME h]
theorem zHV:VGs X [] []:=pgs_nil.imp λv σ H Q h=>by
 obtain⟨τ,F,E,d,E',S,r,hg,k⟩:=h
 cases r with
 |nil=>rw[zPG] at hg;cases hg;exact⟨rfl,k σ S (λ_ h=>h) λ_ _ _ _=>rfl⟩
 |cons _ _=>rw[zPG] at hg;cases hg
theorem zCG{es:List Expr}{t:Tg}{ts:List Tg}(h1:VG X e t)(h2:VGs X es ts)
  (hs:(assignEach (e::es) X.env).map (·.2)=assign e X.env::(assignEach es X.env).map (·.2):=by rfl):VGs X (e::es) (t::ts):=(zD1 h1 h2 hs).imp λv σ H Q h=>by
 obtain⟨τ,F,E,ds,E',S,r,hg,k⟩:=h
 cases r with
 |nil=>rw[zPG] at hg;cases hg
 |@cons v d vs ds r rs =>
  rw[zPG] at hg
  obtain⟨E1,e1,hg⟩:=Out.bind_ok hg
  exact⟨v,vs,rfl,τ,F,E,d,E1,S,r,e1,λσ1 S1 h1 b1=>⟨τ,F,E1,ds,E',S1,rs,hg,λσ2 S2 h2 b2=>k σ2 S2 (λa z=>h1 a (h2 a z)) λn hn j hj=>by
   rw[Tg.ltns,Bool.and_eq_true] at hn
   rw[b2 n hn.2 j hj,b1 n hn.1 j hj]⟩⟩
theorem zMF {es : List Expr} {k : Nat} {ts : List Tg} (hc : X.calm = true) (h : VGs X es ts)
    (hn : (assignEach es X.env).length = ts.length := by rfl) (hst : (assignEach es X.env).findIdx? (·.1) = none := by rfl) : VG X (.Tuple es k pos) (.tp ts) := (zN8 hc h hn hst).imp fun v σ H Q h => by
  obtain ⟨τ, F, E, d, E', S, r, hg, k⟩ := h
  cases d with
  | tup ds =>
    obtain ⟨a, rfl⟩ := r.isRefT
    obtain ⟨vs, h1, h2⟩ := r.sqT S.sub
    rw [gTg] at hg
    exact ⟨a, vs, rfl, h1, by rw [h2.length, ← zME hg], τ, F, E, ds, E', S, h2, hg, fun σ' S' h' b' => k σ' S' h' fun n hn => b' n (by rw [Tg.ltn] at hn; exact hn)⟩
  | _ => have hg : (Out.bad : Out Ev) = .ok E' := hg
         cases hg
noncomputable def zCD(t:Tg)(g:G):GS:=λE=>(g E).bind λp=>(gTg t p.1 p.2).bind λE1=>.ok (.nx E1)
theorem zY7{t:Tg}{σ:St}(h:tS K H₀ (zCD t ge) D' σ H):zXO (tV K H₀ ge) (tG K H₀ t) D' σ H:=by
 obtain⟨τ,F,E,r,S,hg,k⟩:=h
 obtain⟨p,e1,hg⟩:=Out.bind_ok hg
 obtain⟨E1,e2,hg⟩:=Out.bind_ok hg
 cases hg
 exact⟨τ,F,E,p.1,p.2,S,e1,λv F1 H1 s1 S1 r1=>⟨τ,F1,p.2,p.1,E1,S1,r1,e2,λσ2 S2 h2 _=>k σ2 F1 H1 (s1.weak h2) S2⟩⟩
theorem zY8{tg:Expr}{t:Tg}(he:VE X e ge)(hg:VG X tg t)(hs:swapsWithSole [tg] e pos.line X.env=pure false:=by rfl)(hw:swappedStores [tg] e X.env=pure none:=by rfl)
  (h1:(assignEach [tg] X.env).map (·.2)=[assign tg X.env]:=by rfl):VS X (.Assign [tg] e pos) (zCD t ge):=(zN9 he hg hs hw h1).imp λ_ _ _ h=>zY7 h
theorem zBE{i:Nat}{x:Str}{pos':Pos}(hN:X.N.Nodup)(hi:X.N[i]?=some x)(hx:Loc X.env.scope x)(he:VE X e ge)(hs:swapsWith e (some (.Name x pos')) pos.line X.env=pure false:=by rfl)(hf:X.fn x=true\/X.env.scope.names.lookup x=some .local:=by first|exact .inl rfl|exact .inr rfl|assumption) :
  VS X (.Assign [.Name x pos'] e pos) (zCD (.nm i) ge):=(zOA hN hi hx he hs hf).imp λD' σ H h=>by
 obtain⟨τ,F,E,r,S,hg,k⟩:=h
 obtain⟨p,e1,hg⟩:=Out.bind_ok hg
 obtain⟨E1,e2,hg⟩:=Out.bind_ok hg
 cases hg
 rw[gTg] at e2
 cases e2
 refine⟨τ,F,E,p.1,p.2,S,e1,λv F1 H1 s1 S1 r1=>?_⟩
 obtain⟨S2,h2⟩:=S1.put (i:=i) r1
 exact k _ F1 H1 (s1.weak h2) S2
noncomputable def zCL(i:Nat)(g:G):GS:=λE=>(g E).bind λp=>.ok (.nx (p.2.set i (.own false p.1)))
theorem zSA{pins:List (Addr×Obj)}{s:Shared}{σ:St}(I:Inv X pins σ H s){a:Addr}(h:H a=none):∀o u,X.H₀ a≠some (.frz o u):=λo u e=>by
 rw[I.base.frzs a o u e] at h;cases h
theorem zY9{i:Nat}{pins:List (Addr×Obj)}{s:Shared}{σ:St}(I:Inv X pins σ H s)(h:tS X.K X.H₀ (zCL i ge) D' σ H):zXO (tF X.K X.H₀ ge) (zF6 i) D' σ H:=by
 obtain⟨τ,F,E,r,S,hg,k⟩:=h
 obtain⟨p,e1,hg⟩:=Out.bind_ok hg
 cases hg
 refine⟨τ,F,E,p.1,p.2,S,e1,λa F1 H1 s1 S1 n1 n0 ow no=>?_⟩
 obtain⟨S2,h2⟩:=S1.putO (i:=i) n1 ow (zSA I n0) no
 refine k _ F1 H1 ⟨s1.keep,s1.dom,s1.le,s1.new,λb z=>?_⟩ S2
 rcases h2 b z with z|rfl
 ·exact s1.own b z
 ·exact .inr n0
theorem zBL{i:Nat}{x:Str}{pos':Pos}(hN:X.N.Nodup)(hi:X.N[i]?=some x)(hx:Loc X.env.scope x)(he:FE X e ge)(hs:swapsWith e (some (.Name x pos')) pos.line X.env=pure false:=by rfl)(hf:X.fn x=true\/X.env.scope.names.lookup x=some .local:=by first|exact .inl rfl|exact .inr rfl|assumption) :
  VS X (.Assign [.Name x pos'] e pos) (zCL i ge):=λpins s σ H D' I h=>zOA hN hi hx he hs hf pins s σ H D' I (zY9 I h)
noncomputable def zFM(g:G):GS:=λE=>(g E).bind λp=>.ok (.nx p.2)
theorem zHW(he:VE X e ge)(hs:swapsWith e none pos.line X.env=pure false:=by rfl):VS X (.Expr e pos) (zFM ge):=(zKR he hs).imp λD' σ H h=>by
 obtain⟨τ,F,E,r,S,hg,k⟩:=h
 obtain⟨p,e1,hg⟩:=Out.bind_ok hg
 cases hg
 exact⟨τ,F,E,p.1,p.2,S,e1,λv F1 H1 s1 S1 r1=>k σ F1 H1 s1 S1⟩
noncomputable def gWh(t:Ev->Out (Bool×Ev))(g:GS):Nat->GS
 |0,_=>.bad
 |n+1,E=>(t E).bind λp=>if p.1=true then(g p.2).bind λr=>match r with
   |.nx E1=>gWh t g n E1
   |.ct E1=>gWh t g n E1
   |.bk E1=>.ok (.nx E1)
   |.rt b d E1=>.ok (.rt b d E1)
  else .ok (.nx p.2)
theorem zE8{c:Expr}{body:List Stmt}{t:Ev->Out (Bool×Ev)}(n:Nat)(hp:PassesOwn (model X.prog X.w) X.A X.env X.xe)(hc:VT X c t)(hb:VSs X body g):VS X (.While c body [] pos) (gWh t g n):=(zRF hp hc hb).imp λD' σ H h=>by
 obtain⟨τ,F,E,r,S,hg,k⟩:=h
 refine⟨λm σ1 H1=>∃F1 E1,Sim X.K X.H₀ τ F1 H1 σ1 E1/\Stp (owA σ E) F H F1 H1 (owA σ1 E1)/\gWh t g m E1=.ok r,⟨n,F,E,S,.refl,hg⟩,?_⟩
 rintro m σ1 H1 ⟨F1,E1,S1,s1,h1⟩
 cases m with
 |zero=>rw[gWh] at h1;cases h1
 |succ m =>
  rw[gWh] at h1
  obtain⟨p,e1,h1⟩:=Out.bind_ok h1
  refine⟨τ,F1,E1,p.1,p.2,S1,e1,λF2 H2 s2 S2=>?_⟩
  have s12:=s1.trans s2
  dsimp only
  by_cases hp:p.1=true
  ·rw[if_pos hp] at h1 ⊢
   obtain⟨q,e2,h1⟩:=Out.bind_ok h1
   refine⟨λσ3 H3=>∃F3 E3,Sim X.K X.H₀ τ F3 H3 σ3 E3/\Stp (owA σ E) F H F3 H3 (owA σ3 E3)/\gWh t g m E3=.ok r,λσ3 H3 ⟨F3,E3,a1,a2,a3⟩=>⟨m,Nat.lt_succ_self m,F3,E3,a1,a2,a3⟩,τ,F2,p.2,q,S2,e2,?_⟩
   cases q with
   |nx E3=>exact λσ3 F3 H3 s3 S3=>⟨F3,E3,S3,s12.trans s3,h1⟩
   |ct E3=>exact λσ3 F3 H3 s3 S3=>⟨F3,E3,S3,s12.trans s3,h1⟩
   |bk E3=>cases h1;exact λσ3 F3 H3 s3 S3=>k σ3 F3 H3 (s12.trans s3) S3
   |rt b d E3=>cases h1;exact λσ3 v F3 H3 s3 S3 q=>k σ3 v F3 H3 (s12.trans s3) S3 (q.pre s12)
  ·rw[if_neg hp] at h1 ⊢
   cases h1
   exact k σ1 F2 H2 s12 S2
end
def Walks(K:PySem.W.Frag)(J:It)(F:Hp)(ds:List D):Prop:=∀(i:Nat) F1 H1,Le F F1->Sub F1 H1->(i<ds.length->J.go i H1)/\(i=ds.length->J.stop i H1)/\∀x H' d,ds[i]?=some d->J.yld i H1 x H'->∃F',New F1 H1 F' H'/\Rep K F' x d
abbrev GI:=Ev->Out (List D×Ev)
def tI(K:PySem.W.Frag)(H₀:Hp)(g:GI):TI:=λσ H R=>∃τ F E ds E',Sim K H₀ τ F H σ E/\g E=.ok (ds,E') /\
 ∀J F' H',Stp (owA σ E) F H F' H' (owA σ E')->Sim K H₀ τ F' H' σ E'->Walks K J F' ds->R J H'
theorem PI.imp{X:Cx}{tg e:Expr}{t t':TI}(h:PI X tg e t)(hi:∀σ H Q,t' σ H Q->t σ H Q):PI X tg e t':=λpins s σ H Q I q=>h pins s σ H Q I (hi σ H Q q)
abbrev VI(X:Cx)(tg e:Expr)(g:GI):Prop:=PI X tg e (tI X.K X.H₀ g)
section
variable{X:Cx}{K:PySem.W.Frag}{H₀ F H F1 H1:Hp}{τ:Addr}{ow ow1:Addr->Prop}{D':Ends}{st:Stmt}{rest:List Stmt}{g g':GS}{pos:Pos}{e tg:Expr}{ge:G}{gi:GI}
noncomputable def gSq(g:G):GI:=λE=>(g E).bind λp=>match p.1 with|.lst ds=>.ok (ds,p.2)|_=>.bad
noncomputable def gTp(g:G):GI:=λE=>(g E).bind λp=>match p.1 with|.tup ds=>.ok (ds,p.2)|_=>.bad
theorem zGS{a:Addr}{vs:List V}{ds:List D}(h:SqL K F a vs)(r:Reps K F vs ds):Walks K (Itl K a) F ds:=λi F1 H1 l s=>by
 have sq:SqL K H1 a vs:=h.imp (λh=>s.rd (l.rd h)) id
 refine⟨λhi=>?_,λhi=>⟨vs,sq,by rw[r.length,hi];exact Nat.le_refl _⟩,λx H' d e ⟨e1,y⟩=>?_⟩
 ·have hv:i<vs.length:=by rw[r.length];exact hi
  exact⟨vs,vs[i],sq,by simp[hv]⟩
 ·subst e1
  obtain⟨v,h1,h2⟩:=r.get e
  rw[y vs sq] at h1;cases h1
  exact⟨F1,.refl s,h2.le l⟩
theorem Rep.tupSq{v:V}{ds:List D}(r:Rep K F v (.tup ds)):∃a vs,v=.ref a/\Reps K F vs ds/\∀F1 H1,Le F F1->Sub F1 H1->SqT K H1 a vs:=by
 cases r with
 |tup h r=>exact⟨_,_,rfl,r,λF1 H1 l s=>.inl (.inl (s _ _ (l.tup h)))⟩
 |@tupK a xs h n =>
  obtain⟨vs,h1,h2⟩:=Rep.sqT (F:=F) (H:=F) (λ_ _ e=>e) (.tupK h n)
  refine⟨a,vs,rfl,h2,λF1 H1 _ _=>?_⟩
  rcases h with h|h
  ·rcases h with h|⟨o,h⟩<;>cases h
  ·have:vs=xs.map V.str:=Reps.vstr h2
   subst this
   exact .inr h
theorem zPH{a:Addr}{vs:List V}{ds:List D}(sq:∀F1 H1,Le F F1->Sub F1 H1->SqT K H1 a vs)(r:Reps K F vs ds):Walks K (Itt K a) F ds:=λi F1 H1 l s=>by
 have sq:=sq F1 H1 l s
 refine⟨λhi=>?_,λhi=>⟨vs,sq,by rw[r.length,hi];exact Nat.le_refl _⟩,λx H' d e ⟨e1,y⟩=>?_⟩
 ·have hv:i<vs.length:=by rw[r.length];exact hi
  exact⟨vs,vs[i],sq,by simp[hv]⟩
 ·subst e1
  obtain⟨v,h1,h2⟩:=r.get e
  rw[y vs sq] at h1;cases h1
  exact⟨F1,.refl s,h2.le l⟩
theorem zVP(h:VE X e ge):VI X tg e (gSq ge):=(zOD h).imp λσ H Q h=>by
 obtain⟨τ,F,E,ds,E',S,hg,k⟩:=h
 obtain⟨p,e1,hg⟩:=Out.bind_ok hg
 refine⟨τ,F,E,p.1,p.2,S,e1,λv F1 H1 s1 S1 r1=>?_⟩
 split at hg
 ·rename_i ds' ed
  cases hg
  rw[ed] at r1
  obtain⟨a,vs,rfl,h1,h2⟩:=r1.isRefL
  exact⟨a,rfl,⟨vs,h1.imp S1.sub.rd id⟩,k _ F1 H1 s1 S1 (zGS h1 h2)⟩
 ·cases hg
theorem zZA(h:VE X e ge):VI X tg e (gTp ge):=(zTU h).imp λσ H Q h=>by
 obtain⟨τ,F,E,ds,E',S,hg,k⟩:=h
 obtain⟨p,e1,hg⟩:=Out.bind_ok hg
 refine⟨τ,F,E,p.1,p.2,S,e1,λv F1 H1 s1 S1 r1=>?_⟩
 split at hg
 ·rename_i ds' ed
  cases hg
  rw[ed] at r1
  obtain⟨a,vs,rfl,h1,h2⟩:=r1.tupSq
  exact⟨a,rfl,⟨vs,h2 F1 H1 (.refl _) S1.sub⟩,k _ F1 H1 s1 S1 (zPH h2 h1)⟩
 ·cases hg
noncomputable def zBX:List G->Ev->Out (List D×Ev)
 |[],E=>.ok ([],E)
 |g::gs,E=>(g E).bind λp=>(zBX gs p.2).bind λq=>.ok (p.1::q.1,q.2)
def tAr(K:PySem.W.Frag)(H₀:Hp)(gs:List G):TA:=λσ H Q=>∃τ F E ds E',Sim K H₀ τ F H σ E/\zBX gs E=.ok (ds,E') /\
 ∀vs F' H',Stp (owA σ E) F H F' H' (owA σ E')->Sim K H₀ τ F' H' σ E'->Reps K F' vs ds->Q vs H'
theorem PA.imp{es:List Expr}{t t':TA}(h:PA X es t)(hi:∀σ H Q,t' σ H Q->t σ H Q):PA X es t':=λp pins s σ H Q I q=>h p pins s σ H Q I (hi σ H Q q)
abbrev VA(X:Cx)(es:List Expr)(gs:List G):Prop:=PA X es (tAr X.K X.H₀ gs)
theorem zAI:VA X [] []:=pa_nil.imp λσ H Q h=>by
 obtain⟨τ,F,E,ds,E',S,hg,k⟩:=h
 cases hg
 exact k [] F H .refl S .nil
theorem zVQ{gs:List G}{σ:St}{Q:List V->Hp->Prop}(h:tAr K H₀ (ge::gs) σ H Q):zOJ (tV K H₀ ge) (tAr K H₀ gs) σ H Q:=by
 obtain⟨τ,F,E,ds,E',S,hg,k⟩:=h
 rw[zBX] at hg
 obtain⟨p,e1,hg⟩:=Out.bind_ok hg
 obtain⟨q,e2,hg⟩:=Out.bind_ok hg
 cases hg
 exact⟨τ,F,E,p.1,p.2,S,e1,λv F1 H1 s1 S1 r1=>⟨τ,F1,p.2,q.1,q.2,S1,e2,λvs F2 H2 s2 S2 r2=>k (v::vs) F2 H2 (s1.trans s2) S2 (.cons (r1.le s2.le) r2)⟩⟩
theorem zAA{es:List Expr}{gs:List G}(ha:VE X e ge)(hr:VA X es gs)(hs:starEach (e::es) X.env=(false,eval e X.env)::starEach es X.env:=by rfl):VA X (e::es) (ge::gs):=(zBF ha hr hs).imp λ_ _ _ h=>zVQ h
theorem zDQ{n:Nat}(h:n<10000):n<sizeLine:=Nat.lt_of_lt_of_le h (by decide)
noncomputable def few(n:Nat){α:Type}(x:Out α):Out α:=if n<10000 then x else .bad
theorem zCH{n:Nat}{α:Type}{x:Out α}{a:α}(h:few n x=.ok a):n<10000/\x=.ok a:=by
 unfold few at h
 split at h
 ·exact⟨by assumption,h⟩
 ·cases h
noncomputable def zDP(gs:List G):G:=λE=>(zBX gs E).bind λp=>few p.1.length (.ok (.tup p.1,p.2))
noncomputable def zBM(gs:List G):G:=λE=>(zBX gs E).bind λp=>few p.1.length (.ok (.lst p.1,p.2))
theorem zJP{es:List Expr}{gs:List G} {x1} (h:VA X es gs):VE X (.Tuple es x1 pos) (zDP gs):=(zYI h).imp λσ H Q h=>by
 obtain⟨τ,F,E,ds,E',S,hg,k⟩:=h
 obtain⟨p,e1,hg⟩:=Out.bind_ok hg
 obtain⟨hl,hg⟩:=zCH hg
 cases hg
 refine⟨τ,F,E,p.1,p.2,S,e1,λvs F1 H1 s1 S1 r1=>⟨by rw[r1.length];exact Nat.le_of_lt (zDQ hl),λq hq=>?_⟩⟩
 have n:=New.laid (o:=.tup vs) S1.sub hq
 exact k _ _ _ (s1.trans n.stp) (S1.new n) (.tup zAD (r1.le n.1.le))
theorem zDA{es:List Expr}{gs:List G}(h:VA X es gs):FE X (.List es pos) (zBM gs):=(zL5 h).imp λσ H Q h=>by
 obtain⟨τ,F,E,ds,E',S,hg,k⟩:=h
 obtain⟨p,e1,hg⟩:=Out.bind_ok hg
 obtain⟨hl,hg⟩:=zCH hg
 cases hg
 refine⟨τ,F,E,p.1,p.2,S,e1,λvs F1 H1 s1 S1 r1=>⟨by rw[r1.length];exact Nat.le_of_lt (zDQ hl),λq hq=>?_⟩⟩
 have n:=New.junk (H':=upd H1 q (.lst vs)) S1.sub (Gr.new hq)
 have fq:F1 q=none:=by
  cases z:F1 q with
  |none=>rfl
  |some o=>rw[S1.sub q o z] at hq;cases hq
 exact k q _ _ (s1.trans n.stp) (S1.new n) fq (s1.dom q hq) ⟨vs,zAD,r1⟩ (S1.fresh hq)
noncomputable def zCP(t:Tg)(g:GS):List D->GS
 |[],E=>.ok (.nx E)
 |d::ds,E=>(gTg t d E).bind λE1=>(g E1).bind λr=>match r with
  |.nx E2=>zCP t g ds E2
  |.ct E2=>zCP t g ds E2
  |.bk E2=>.ok (.nx E2)
  |.rt b d E2=>.ok (.rt b d E2)
noncomputable def zED(gi:GI)(t:Tg)(g:GS):GS:=λE=>(gi E).bind λp=>zCP t g p.1 p.2
theorem zDC{iter:Expr}{body:List Stmt}{t:Tg}(hp:PassesOwn (model X.prog X.w) X.A X.env X.xe)(hc:X.calm=true)(hi:VI X tg iter gi)(hg:VG X tg t)(hb:VSs X body g)
  (hs:∀x,foldedSetIterable iter X.env x=pure x:=by intro _;rfl):VS X (.For tg iter body [] pos) (zED gi t g):=(zGI hp hc hi hg hb hs).imp λD' σ H h=>by
 obtain⟨τ,F,E,r,S,hg,k⟩:=h
 obtain⟨p,e1,hg⟩:=Out.bind_ok hg
 refine⟨τ,F,E,p.1,p.2,S,e1,λJ F1 H1 s1 S1 w1=>?_⟩
 refine⟨λi m σ2 H2=>m=p.1.length-i/\i<=p.1.length/\∃F2 E2,Sim X.K X.H₀ τ F2 H2 σ2 E2/\Stp (owA σ E) F H F2 H2 (owA σ2 E2)/\Le F1 F2/\zCP t g (p.1.drop i) E2=.ok r,⟨_,rfl,Nat.zero_le _,F1,p.2,S1,s1,.refl _,by rw[List.drop_zero];exact hg⟩,?_⟩
 rintro i m σ2 H2 ⟨rfl,hil,F2,E2,S2,s2,l2,h2⟩
 obtain⟨w2,w3,w4⟩:=w1 i F2 H2 l2 S2.sub
 by_cases hi:i<p.1.length
 ·obtain⟨d,hd⟩:∃d,p.1[i]?=some d:=⟨p.1[i],by simp[hi]⟩
  have hdr:p.1.drop i=d::p.1.drop (i+1):=by
   rw[List.drop_eq_getElem_cons hi]
   have:p.1[i]=d:=by rw[List.getElem?_eq_getElem hi] at hd;exact Option.some.inj hd
   rw[this]
  rw[hdr,zCP] at h2
  obtain⟨E3,e3,h2⟩:=Out.bind_ok h2
  obtain⟨q,e4,h2⟩:=Out.bind_ok h2
  refine .inr ⟨w2 hi,λσ5 H5=>∃F5 E5,Sim X.K X.H₀ τ F5 H5 σ5 E5/\Stp (owA σ E) F H F5 H5 (owA σ5 E5)/\Le F1 F5/\zCP t g (p.1.drop (i+1)) E5=.ok r,λσ5 H5 ⟨F5,E5,a1,a2,a3,a4⟩=>⟨_,by omega,rfl,hi,F5,E5,a1,a2,a3,a4⟩,λx H' y=>?_⟩
  obtain⟨F3,n3,r3⟩:=w4 x H' d hd y
  refine⟨τ,F3,E2,d,E3,S2.new n3,r3,e3,λσ4 S4 h4 _=>⟨τ,F3,E3,q,S4,e4,?_⟩⟩
  have s4:Stp (owA σ E) F H F3 H' (owA σ4 E3):=(s2.trans n3.stp).weak h4
  have l3:Le F1 F3:=l2.trans n3.1.le
  cases q with
  |nx E5=>exact λσ5 F5 H5 s5 S5=>⟨F5,E5,S5,s4.trans s5,l3.trans s5.le,h2⟩
  |ct E5=>exact λσ5 F5 H5 s5 S5=>⟨F5,E5,S5,s4.trans s5,l3.trans s5.le,h2⟩
  |bk E5=>cases h2;exact λσ5 F5 H5 s5 S5=>k σ5 F5 H5 (s4.trans s5) S5
  |rt b d E5=>cases h2;exact λσ5 v F5 H5 s5 S5 q=>k σ5 v F5 H5 (s4.trans s5) S5 (q.pre s4)
 ·have hi:i=p.1.length:=by omega
  rw[List.drop_eq_nil_of_le (by omega),zCP] at h2
  cases h2
  exact .inl ⟨w3 hi,k σ2 F2 H2 s2 S2⟩
end
abbrev Mr:=List Sl->Out (Bool×D×D)
noncomputable def zSB(sl:Ev)(d:D):Ev:=match sl with
 |.own t _::r=>.own t d::r
 |sl=>sl
noncomputable def fin(sl:Ev)(E':Ev)(b:Bool)(d:D):Out (Bool×D×D):=match sl with
 |.own _ _::_=>match E' with
  |.own true d'::_=>.ok (b,d,d')
  |_=>.bad
 |_=>.ok (b,d,.non)
noncomputable def zJQ(n:Nat)(gb:GS):Mr:=λsl=>(gb (sl++List.replicate (n-sl.length) .no)).bind λr=>match r with
 |.rt b d E'=>fin sl E' b d
 |.nx E'=>fin sl E' false .non
 |_=>.bad
def Shp(sl:Ev):Prop:=∀(i:Nat) t d,sl[i]?=some (.own t d)->i=0/\t=true
def yDW(K:PySem.W.Frag)(H F' H':Hp)(ow:Addr->Prop):Bool->V->D->Prop
 |false,v,d=>Rep K F' v d
 |true,v,d=>∃a,v=.ref a/\F' a=none/\OwnAt K F' H' a d/\H a=none/\¬ow a
def spV(K:PySem.W.Frag)(np:Nat)(m:Mr):Sp:=λvs H Q _=>vs.length=np/\∃τ F sl b d d',Sim K H τ F H (vs.map some) sl/\Shp sl/\m sl=.ok (b,d,d') /\
 ∀v F' H',Stp (owA (vs.map some) sl) F H F' H' (owA (vs.map some) (zSB sl d'))->Sim K H τ F' H' (vs.map some) (zSB sl d')->yDW K H F' H' (owA (vs.map some) (zSB sl d')) b v d->Q v H'
theorem zZB{sl E':Ev}{b b':Bool}{d d0 d':D}(h:fin sl E' b d=.ok (b',d0,d')):b'=b/\d0=d/\∀t x r,sl=.own t x::r->∃r',E'=.own true d'::r':=by
 unfold fin at h
 split at h
 ·split at h
  ·cases h
   exact⟨rfl,rfl,λ_ _ _ _=>⟨_,rfl⟩⟩
  ·cases h
 ·rename_i hn
  cases h
  refine⟨rfl,rfl,λt x r e=>?_⟩
  exact absurd e (by intro z;exact hn t x r z)
section
variable{P:Program}{w:World}{K:PySem.W.Frag}{mg:Str->Option Value}{base:Heap}
theorem Fun.okC{x qual:Str}{st:Stmt}{f:Addr}{fd:FuncData}{N ps:List Str}{k:Nat}{sp:Sp}(F:Fun K x qual st f fd)(S:FnScope N ps (zAJ st))(len:∀vs H Q E,sp vs H Q E->vs.length=ps.length)
  (hbody:∀(cdv:Value) (A:Around) (outer:List Env) (s:Shared) (H:Hp) (vs:List V) (Q:VK) (E:XK),cdv=fd.code->Room k (A.deeper (envOfC qual (zAJ st) s.heap.objs.size f cdv))->sp vs H Q E ->
   ∃t,PSs (zRH CX0 P w K mg base N qual (zAJ st) f cdv A outer s H E).nox (zAV st) t/\t { nx:=λ_ H'=>Q .non H',rt:=Q } (start N vs) H):FnOk P w K mg base CX0 (k+1) f fd ps sp:=by
 obtain⟨oc,od,kV,doc,pm,an,cdv,ct,osl,rfl,lk,hcd⟩:=F.ex
 refine zYK lk hcd S len λA outer s H vs Q E hr hsp=>?_
 obtain⟨t,h,q⟩:=hbody cdv A outer s H vs Q E rfl hr hsp
 exact⟨t,h.nox,q⟩
theorem zVR{x qual:Str}{st:Stmt}{f:Addr}{fd:FuncData}{N ps:List Str}{k:Nat}{gb:GS}(Fn:Fun K x qual st f fd)(S:FnScope N ps (zAJ st))
  (hbody:∀(cdv:Value) (A:Around) (outer:List Env) (s:Shared) (H:Hp) (E:XK),cdv=fd.code->Room k (A.deeper (envOfC qual (zAJ st) s.heap.objs.size f cdv)) ->
   VSs (zRH CX0 P w K mg base N qual (zAJ st) f cdv A outer s H E).nox (zAV st) gb):FnOk P w K mg base CX0 (k+1) f fd ps (spV K ps.length (zJQ N.length gb)):=by
 refine Fn.okC S (λvs H Q E h=>h.1) λcdv A outer s H vs Q E hcc hr h=>⟨_,hbody cdv A outer s H E hcc hr,?_⟩
 obtain⟨hl,τ,F,sl,b,d,d',Sm,sh,hm,k⟩:=h
 unfold zJQ at hm
 obtain⟨r,e1,hm⟩:=Out.bind_ok hm
 have lsl:sl.length=vs.length:=by rw[Sm.len,List.length_map]
 have own0:∀(i:Nat) t d,(sl++List.replicate (N.length-sl.length) Sl.no)[i]?=some (.own t d)->sl[i]?=some (.own t d):=λi t d q=>by
  by_cases hi:i<sl.length
  ·rw[List.getElem?_append_left hi] at q;exact q
  ·rw[List.getElem?_append_right (by omega),List.getElem?_replicate] at q
   split at q<;>cases q
 have val0:∀(i:Nat) d,(sl++List.replicate (N.length-sl.length) Sl.no)[i]?=some (.val d)->sl[i]?=some (.val d):=λi d q=>by
  by_cases hi:i<sl.length
  ·rw[List.getElem?_append_left hi] at q;exact q
  ·rw[List.getElem?_append_right (by omega),List.getElem?_replicate] at q
   split at q<;>cases q
 have st0:∀(i:Nat),i<sl.length->(start N vs)[i]?=(vs.map some)[i]?:=λi hi=>by
  unfold start
  rw[List.getElem?_append_left (by rw[List.length_map];omega)]
 have Sm0:Sim K H τ F H (start N vs) (sl++List.replicate (N.length-sl.length) .no):=by
  refine⟨Sm.sub,?_,λi d q=>?_,λi t d q=>?_,λi j t u d d2 a q1 q2 z1 z2=>?_⟩
  ·unfold start
   rw[List.length_append,List.length_append,List.length_replicate,List.length_replicate,List.length_map,lsl]
  ·have q:=val0 i d q
   rw[st0 i (List.getElem?_eq_some_iff.mp q).1];exact Sm.val i d q
  ·have q:=own0 i t d q
   rw[st0 i (List.getElem?_eq_some_iff.mp q).1];exact Sm.own i t d q
  ·have q1:=own0 i _ _ q1
   have q2:=own0 j _ _ q2
   rw[st0 i (List.getElem?_eq_some_iff.mp q1).1] at z1
   rw[st0 j (List.getElem?_eq_some_iff.mp q2).1] at z2
   exact Sm.inj i j t u d d2 a q1 q2 z1 z2
 have ow0:∀a,owA (start N vs) (sl++List.replicate (N.length-sl.length) .no) a↔owA (vs.map some) sl a:=λa=>by
  constructor
  ·rintro⟨i,t,d,q1,q2⟩
   have q:=own0 i t d q1
   rw[st0 i (List.getElem?_eq_some_iff.mp q).1] at q2
   exact⟨i,t,d,q,q2⟩
  ·rintro⟨i,t,d,q1,q2⟩
   have hi:=(List.getElem?_eq_some_iff.mp q1).1
   exact⟨i,t,d,by rw[List.getElem?_append_left hi];exact q1,by rw[st0 i hi];exact q2⟩
 -- the end,from what the body ends with
 have theEnd:∀{E':Ev} {b0:Bool} {d0:D},fin sl E' b0 d0=.ok (b,d,d')->∀σ' v F' H',Stp (owA (start N vs) (sl++List.replicate (N.length-sl.length) .no)) F H F' H' (owA σ' E')->Sim K H τ F' H' σ' E' ->
   RetR K (owA (start N vs) (sl++List.replicate (N.length-sl.length) .no)) H F' H' σ' E' b0 v d0->Q v H':=by
  intro E' b0 d0 hf σ' v F' H' s1 S1 rr
  obtain⟨rfl,rfl,h3⟩:=zZB hf
  have p0:∀(i:Nat) t x,(zSB sl d')[i]?=some (.own t x)->i=0/\t=true/\x=d'/\∃x0 r,sl=.own true x0::r:=λi t x q=>by
   cases sl with
   |nil=>simp[zSB] at q
   |cons y r =>
    have other:(∀t0 x0,y≠.own t0 x0)->(y::r)[i]?=some (.own t x)->False:=λhn q=>by
     obtain⟨h0,ht⟩:=sh i t x q
     subst h0
     simp at q
     exact hn _ _ q
    cases y with
    |no=>exact(other (λ_ _ z=>Sl.noConfusion z) q).elim
    |val _=>exact(other (λ_ _ z=>Sl.noConfusion z) q).elim
    |own t0 x0 =>
     cases i with
     |zero =>
      obtain⟨_,ht⟩:=sh 0 t0 x0 rfl
      subst ht
      have q:some (Sl.own true d')=some (.own t x):=q
      cases q
      exact⟨rfl,rfl,rfl,x0,r,rfl⟩
     |succ i =>
      have:=(sh (i+1) t x q).1
      omega
  have pv:∀(i:Nat) x,(zSB sl d')[i]?=some (.val x)->sl[i]?=some (.val x):=λi x q=>by
   unfold zSB at q
   split at q
   ·cases i with
    |zero=>simp at q
    |succ i=>simpa using q
   ·exact q
  have own1:∀x0 r,sl=.own true x0::r->∃a,(vs.map some)[0]?=some (some (.ref a))/\τ=a/\σ'[0]?=some (some (.ref a))/\F' a=none/\OwnAt K F' H' a d'/\(∀o u,H a≠some (.frz o u))/\E'[0]?=some (.own true d'):=λx0 r e=>by
   obtain⟨r',e'⟩:=h3 true x0 r e
   have q0:E'[0]?=some (.own true d'):=by rw[e'];rfl
   obtain⟨a,a1,a2,a3,a4,a5⟩:=S1.own 0 true d' q0
   obtain⟨c,c1,c2,c3,c4,c5⟩:=Sm.own 0 true x0 (by rw[e];rfl)
   have:a=c:=by rw[<-a5 rfl,<-c5 rfl]
   subst this
   exact⟨a,c1,c5 rfl,a1,a2,a3,a4,q0⟩
  refine k v F' H' ⟨λa o e hw n ho=>s1.keep a o e hw n λz=>ho ((ow0 a).mp z),s1.dom,s1.le,λa o e=>(s1.new a o e).imp_right λz=>z.imp_right (ow0 a).mp,λa ⟨i,t,x,q1,q2⟩=>?_⟩
   ⟨S1.sub,?_,λi x q=>?_,λi t x q=>?_,λi j t u x y a q1 q2 _ _=>by rw[(p0 i t x q1).1,(p0 j u y q2).1]⟩ ?_
  ·obtain⟨rfl,rfl,rfl,x0,r,e⟩:=p0 i t x q1
   exact .inl ⟨0,true,x0,by rw[e];rfl,q2⟩
  ·have:(zSB sl d').length=sl.length:=by
    unfold zSB
    split<;>rfl
   rw[this];exact Sm.len
  ·obtain⟨v,h1,h2⟩:=Sm.val i x (pv i x q)
   exact⟨v,h1,h2.le s1.le⟩
  ·obtain⟨rfl,rfl,rfl,x0,r,e⟩:=p0 i t x q
   obtain⟨a,a1,a2,a3,a4,a5,a6,_⟩:=own1 x0 r e
   exact⟨a,a1,a4,a5,a6,λ_=>a2⟩
  ·cases b with
   |false=>exact rr
   |true =>
    obtain⟨a,r1,r2,r3,r4,r5⟩:=rr
    have no:¬owA (vs.map some) sl a:=by
     rintro⟨i,t,x,q1,q2⟩
     obtain⟨rfl,rfl⟩:=sh i t x q1
     cases sl with
     |nil=>simp at q1
     |cons y r =>
      simp at q1
      subst q1
      obtain⟨c,c1,c2,c3,c4,c5,c6,c7⟩:=own1 x r rfl
      rw[q2] at c1;cases c1
      exact r5 0 d' c7 c3
    refine⟨a,r1,r2,r3,r4.elim (λz=>absurd ((ow0 a).mp z) no) id,?_⟩
    rintro⟨i,t,x,q1,q2⟩
    obtain⟨rfl,rfl,rfl,x0,r,e⟩:=p0 i t x q1
    exact no ⟨0,true,x0,by rw[e];rfl,q2⟩
 refine⟨τ,F,_,r,Sm0,e1,?_⟩
 cases r with
 |rt b0 d0 E'=>exact theEnd hm
 |nx E'=>exact λσ' F' H' s1 S1=>theEnd hm σ' .non F' H' s1 S1 .non
 |bk E'=>cases hm
 |ct E'=>cases hm
theorem zPI{x qual:Str}{st:Stmt}{f:Addr}{fd:FuncData}{N ps:List Str}{k:Nat}{gb:GS}(Fn:Fun K x qual st f fd)(S:FnScope N ps (zAJ st))
  (hbody:∀(cdv:Value) (A:Around) (outer:List Env) (s:Shared) (H:Hp) (E:XK),Room k (A.deeper (envOfC qual (zAJ st) s.heap.objs.size f cdv)) ->
   VSs (zRH CX0 P w K mg base N qual (zAJ st) f cdv A outer s H E).nox (zAV st) gb):FnOk P w K mg base CX0 (k+1) f fd ps (spV K ps.length (zJQ N.length gb)) :=
 zVR Fn S λcdv A outer s H E _ hr=>hbody cdv A outer s H E hr
end
section
variable{X:Cx}{K:PySem.W.Frag}{H₀ F H F1 H1 F2 H2:Hp}{τ:Addr}{pos p:Pos}{e:Expr}{es:List Expr}{ge:G}{gs:List G}{x:Str}{k np:Nat}{m:Mr}
def Cal(P:Program)(w:World)(K:PySem.W.Frag)(mg:Str->Option Value)(base:Heap)(x:Str)(k np:Nat)(m:Mr):Prop :=
 ∃(f:Addr) (fd:FuncData) (ps:List Str),FnOk P w K mg base CX0 k f fd ps (spV K np m)/\mg x=some (.ref f)/\PySem.W.keepIn K (.ref f)=true/\Binds K fd ps []
theorem zSC{σ:St}{ds:List D}(a:Addr):¬owA σ (ds.map Sl.val) a:=λ⟨i,t,d,e,_⟩=>by
 rw[List.getElem?_map] at e
 cases q:ds[i]? with
 |none=>rw[q] at e;cases e
 |some d'=>rw[q] at e;cases e
theorem Sim.args{vs:List V}{ds:List D}(s:Sub F H)(r:Reps K F vs ds):Sim K H₀ τ F H (vs.map some) (ds.map Sl.val):=by
 have no:∀(i:Nat) t d,(ds.map Sl.val)[i]?≠some (.own t d):=λi t d e=>by
  rw[List.getElem?_map] at e
  cases q:ds[i]? with
  |none=>rw[q] at e;cases e
  |some d'=>rw[q] at e;cases e
 refine⟨s,by rw[List.length_map,List.length_map,r.length],λi d e=>?_,λi t d e=>absurd e (no i t d),λi j t u d d' a e=>absurd e (no i t d)⟩
 rw[List.getElem?_map] at e
 cases q:ds[i]? with
 |none=>rw[q] at e;cases e
 |some d' =>
  rw[q] at e;cases e
  obtain⟨v,h1,h2⟩:=r.get q
  exact⟨v,by rw[List.getElem?_map,h1];rfl,h2⟩
theorem zHX(ds:List D):Shp (ds.map Sl.val):=λi t d e=>by
 rw[List.getElem?_map] at e
 cases q:ds[i]? with
 |none=>rw[q] at e;cases e
 |some d'=>rw[q] at e;cases e
theorem New.share{a:Addr}{o:HO}(n:New F1 H1 F2 H2)(h:H1 a=none)(ho:H2 a=some o)(hf:F2 a=none):New F1 H1 (upd F2 a o) H2:=by
 refine⟨⟨n.1.keep,n.1.dom,n.1.le.trans (.of_gr (Gr.new hf)),λb u e=>?_,λ_ z=>z.elim⟩,λb u e=>?_⟩
 ·by_cases hb:b=a
  ·subst hb;exact .inr (.inl (.none h))
  ·rw[zAE hb] at e;exact n.1.new b u e
 ·by_cases hb:b=a
  ·subst hb;rw[zAD] at e;rw[ho];exact e
  ·rw[zAE hb] at e;exact n.2 b u e
noncomputable def zB9(m:Mr)(gs:List G):G:=λE=>(zBX gs E).bind λp=>(m (p.1.map Sl.val)).bind λq=>.ok (q.2.1,p.2)
noncomputable def zGT(m:Mr)(gs:List G):G:=λE=>(zBX gs E).bind λp=>(m (p.1.map Sl.val)).bind λq=>if q.1=true then .ok (q.2.1,p.2) else .bad
theorem zDD:∀{gs:List G} {E:Ev} {q:List D×Ev},zBX gs E=.ok q->q.1.length=gs.length
 |[],_,_,h=>by rw[zBX] at h;cases h;rfl
 |g::gs,E,q,h=>by
  rw[zBX] at h
  obtain⟨p,_,h⟩:=Out.bind_ok h
  obtain⟨r,e2,h⟩:=Out.bind_ok h
  cases h
  rw[List.length_cons,List.length_cons,zDD e2]
theorem zVS(hn:gs.length=np){σ:St}{Q:VK}(h:tV K H₀ (zB9 m gs) σ H Q):zOK (spV K np m) [] E0 (tAr K H₀ gs) σ H Q:=by
 obtain⟨τ,F,E,d,E',S,hg,k⟩:=h
 obtain⟨p,e1,hg⟩:=Out.bind_ok hg
 obtain⟨q,e2,hg⟩:=Out.bind_ok hg
 cases hg
 refine⟨τ,F,E,p.1,p.2,S,e1,λvs F1 H1 s1 S1 r1=>?_⟩
 dsimp only
 rw[List.append_nil]
 refine⟨by rw[r1.length,zDD e1,hn],0,F1,_,q.1,q.2.1,q.2.2,Sim.args S1.sub r1,zHX _,e2,λv F2 H2 s2 S2 rr=>?_⟩
 have n:New F1 H1 F2 H2:=⟨(s2.toF λa=>zSC a).weak λ_ z=>z.elim,S2.sub⟩
 cases hb:q.1 with
 |false =>
  rw[hb] at rr
  exact k v F2 H2 (s1.trans n.stp) (S1.new n) rr
 |true =>
  rw[hb] at rr
  obtain⟨a,rfl,h1,h2,h3,h4⟩:=rr
  obtain⟨o,ho,_⟩:=h2.ho
  have n':=n.share h3 ho h1
  exact k _ _ H2 (s1.trans n'.stp) (S1.new n') (h2.rep h1 ho)
theorem zSD(hn:gs.length=np){σ:St}{Q:VK}(h:tF K H₀ (zGT m gs) σ H Q):zOK (spV K np m) [] E0 (tAr K H₀ gs) σ H Q:=by
 obtain⟨τ,F,E,d,E',S,hg,k⟩:=h
 obtain⟨p,e1,hg⟩:=Out.bind_ok hg
 obtain⟨q,e2,hg⟩:=Out.bind_ok hg
 split at hg
 ·rename_i hb
  cases hg
  refine⟨τ,F,E,p.1,p.2,S,e1,λvs F1 H1 s1 S1 r1=>?_⟩
  dsimp only
  rw[List.append_nil]
  refine⟨by rw[r1.length,zDD e1,hn],0,F1,_,q.1,q.2.1,q.2.2,Sim.args S1.sub r1,zHX _,e2,λv F2 H2 s2 S2 rr=>?_⟩
  have n:New F1 H1 F2 H2:=⟨(s2.toF λa=>zSC a).weak λ_ z=>z.elim,S2.sub⟩
  rw[hb] at rr
  obtain⟨a,rfl,h1,h2,h3,h4⟩:=rr
  exact k a F2 H2 (s1.trans n.stp) (S1.new n) h1 (s1.dom a h3) h2 (S1.fresh h3)
 ·cases hg
theorem zC6(C:Cal X.prog X.w X.K X.mg X.base x k np m)(hr:Room k X.A)(ha:VA X (e::es) gs)(hn:gs.length=np:=by rfl)(hg:Gl X x:=by rfl)(hdb:(x==("__debug__":Str))=false:=by decide)
  (he:starEach (e::es) X.env=(false,eval e X.env)::starEach es X.env:=by rfl) (hpl:(backTo pos (starEach es X.env)).any (·.1)=false:=by rfl):VE X (.Call (.Name x p) (e::es) [] pos) (zB9 m gs):=by
 obtain⟨f,fd,ps,Fn,hm,hk,hb⟩:=C
 exact(zHB Fn hr hg hm hk hb .nil zRW ha hdb he hpl).imp λ_ _ _ h=>zVS hn h
theorem zZC(C:Cal X.prog X.w X.K X.mg X.base x k np m)(hr:Room k X.A)(ha:VA X (e::es) gs)(hn:gs.length=np:=by rfl)(hg:Gl X x:=by rfl)(hdb:(x==("__debug__":Str))=false:=by decide)
  (he:starEach (e::es) X.env=(false,eval e X.env)::starEach es X.env:=by rfl) (hpl:(backTo pos (starEach es X.env)).any (·.1)=false:=by rfl):FE X (.Call (.Name x p) (e::es) [] pos) (zGT m gs):=by
 obtain⟨f,fd,ps,Fn,hm,hk,hb⟩:=C
 exact(zHB Fn hr hg hm hk hb .nil zRW ha hdb he hpl).imp λ_ _ _ h=>zSD hn h
noncomputable def zAQ(m:Mr)(i:Nat)(gs:List G):G:=λE=>match E[i]? with
 |some (.own _ _)=>(zBX gs E).bind λp=>match p.2[i]? with
  |some (.own t d)=>(m (.own true d::p.1.map Sl.val)).bind λq=>.ok (q.2.1,p.2.set i (.own t q.2.2))
  |_=>.bad
 |_=>.bad
theorem Sim.argsR{vs:List V}{ds:List D}{a:Addr}{d:D}(s:Sub F H)(r:Reps K F vs ds)(h1:F a=none)(h2:OwnAt K F H a d):Sim K H a F H ((V.ref a::vs).map some) (.own true d::ds.map Sl.val):=by
 have S:=Sim.args (K:=K) (H₀:=H) (τ:=a) s r
 have no:∀(i:Nat) t d',(Sl.own true d::ds.map Sl.val)[i]?=some (.own t d')->i=0/\t=true/\d'=d:=λi t d' e=>by
  cases i with
  |zero=>cases e;exact⟨rfl,rfl,rfl⟩
  |succ i =>
   have e:(ds.map Sl.val)[i]?=some (.own t d'):=by simpa using e
   rw[List.getElem?_map] at e
   cases q:ds[i]? with
   |none=>rw[q] at e;cases e
   |some d'=>rw[q] at e;cases e
 refine⟨s,by rw[List.length_map,List.length_cons,List.length_cons,List.length_map,r.length],λi d' e=>?_,λi t d' e=>?_,λi j t u d1 d2 b e1 e2 _ _=>by rw[(no i _ _ e1).1,(no j _ _ e2).1]⟩
 ·cases i with
  |zero=>cases e
  |succ i=>simpa using S.val i d' (by simpa using e)
 ·obtain⟨rfl,rfl,rfl⟩:=no i t d' e
  obtain⟨o,ho,hw⟩:=h2.ho
  exact⟨a,rfl,h1,h2,λob u z=>by rw[ho] at z;cases z;exact hw,λ_=>rfl⟩
theorem yBR{ds:List D}{d:D}:Shp (.own true d::ds.map Sl.val):=λi t d' e=>by
 cases i with
 |zero=>cases e;exact⟨rfl,rfl⟩
 |succ i =>
  have e:(ds.map Sl.val)[i]?=some (.own t d'):=by simpa using e
  exact absurd (zHX ds i t d' e) (by
   rw[List.getElem?_map] at e
   cases q:ds[i]? with
   |none=>rw[q] at e;cases e
   |some d'=>rw[q] at e;cases e)
theorem owR{vs:List V}{ds:List D}{a b:Addr}{d:D}(h:owA ((V.ref a::vs).map some) (.own true d::ds.map Sl.val) b):b=a:=by
 obtain⟨i,t,d',e1,e2⟩:=h
 obtain⟨rfl,_⟩:=yBR i t d' e1
 cases e2
 rfl
theorem zSE {i : Nat} (hn : gs.length + 1 = np) {σ : St} {Q : VK} (h : tV K H₀ (zAQ m i gs) σ H Q) : zOK (spV K np m) [] E0 (zOJ (zQ2 i) (tAr K H₀ gs)) σ H Q := by
  obtain ⟨τ, F, E, d, E', S, hg, k⟩ := h
  unfold zAQ at hg
  split at hg
  · rename_i t0 d0 e0
    obtain ⟨p, e1, hg⟩ := Out.bind_ok hg
    split at hg
    · rename_i t d1 e3
      obtain ⟨q, e2, hg⟩ := Out.bind_ok hg
      cases hg
      obtain ⟨a, a1, _⟩ := S.own i _ _ e0
      refine ⟨_, a1, τ, F, E, p.1, p.2, S, e1, fun vs F1 H1 s1 S1 r1 => ?_⟩
      dsimp only
      rw [List.append_nil]
      obtain ⟨a', b1, b2, b3, b4, b5⟩ := S1.own i _ _ e3
      rw [a1] at b1; cases b1
      refine ⟨by rw [List.length_cons, r1.length, zDD e1, hn], a, F1, _, q.1, q.2.1, q.2.2, Sim.argsR S1.sub r1 b2 b3, yBR, e2, fun v F2 H2 s2 S2 rr => ?_⟩
      have s2 : Stp (owA ((V.ref a :: vs).map some) (.own true d1 :: p.1.map Sl.val)) F1 H1 F2 H2 (owA ((V.ref a :: vs).map some) (.own true q.2.2 :: p.1.map Sl.val)) := s2
      have S2 : Sim K H1 a F2 H2 ((V.ref a :: vs).map some) (.own true q.2.2 :: p.1.map Sl.val) := S2
      have hi : i < p.2.length := (List.getElem?_eq_some_iff.mp e3).1
      have old : ∀ (j : Nat) t' d', (p.2.set i (.own t q.2.2))[j]? = some (.own t' d') → (j = i ∧ t' = t ∧ d' = q.2.2) ∨ (j ≠ i ∧ p.2[j]? = some (.own t' d')) := fun j t' d' z => by
        by_cases hj : i = j
        · subst hj; rw [List.getElem?_set_self hi] at z; cases z; exact .inl ⟨rfl, rfl, rfl⟩
        · rw [List.getElem?_set_ne hj] at z; exact .inr ⟨Ne.symm hj, z⟩
      have oin : ∀ b, owA σ (p.2.set i (.own t q.2.2)) b → owA σ p.2 b := fun b ⟨j, t', d', z1, z2⟩ => by
        rcases old j t' d' z1 with ⟨rfl, _, _⟩ | ⟨_, z1⟩
        · exact ⟨_, _, _, e3, z2⟩
        · exact ⟨j, t', d', z1, z2⟩
      have ina : owA σ p.2 a := ⟨i, t, d1, e3, a1⟩
      have st3 : Stp (owA σ p.2) F1 H1 F2 H2 (owA σ (p.2.set i (.own t q.2.2))) := ⟨fun b o z hw n ho => s2.keep b o z hw n fun y => ho (by rw [owR y]; exact ina), s2.dom, s2.le, fun b o z => (s2.new b o z).imp_right fun y => y.imp_right fun y => by rw [owR y]; exact ina, fun b z => .inl (oin b z)⟩
      have Sm : Sim K H₀ τ F2 H2 σ (p.2.set i (.own t q.2.2)) := by
        refine ⟨S2.sub, by rw [List.length_set]; exact S1.len, fun j d' z => ?_, fun j t' d' z => ?_, fun j l t1 t2 x y b z1 z2 y1 y2 => ?_⟩
        · by_cases hj : i = j
          · subst hj; rw [List.getElem?_set_self hi] at z; cases z
          · rw [List.getElem?_set_ne hj] at z
            obtain ⟨v, h1, h2⟩ := S1.val j d' z
            exact ⟨v, h1, h2.le s2.le⟩
        · rcases old j t' d' z with ⟨rfl, rfl, rfl⟩ | ⟨hj, z⟩
          · obtain ⟨c, c1, c2, c3, _⟩ := S2.own 0 true q.2.2 rfl
            cases c1
            exact ⟨a, a1, c2, c3, b4, b5⟩
          · obtain ⟨c, c1, c2, c3, c4⟩ := S1.own j t' d' z
            obtain ⟨o, ho, hw⟩ := c3.ho
            have hca : c ≠ a := fun y => hj (S1.inj j i t' t d' d1 a z e3 (by rw [c1, y]) a1)
            refine ⟨c, c1, ?_, c3.mono s2.le ((s2.keep c o ho hw c2 fun y => hca (owR y)).trans ho.symm), c4⟩
            cases y : F2 c with
            | none => rfl
            | some u => rcases s2.new c u y with y | y | y
                        · exact absurd c2 y
                        · exact absurd hw (y o ho)
                        · exact absurd (owR y) hca
        · have f : ∀ (j : Nat) t' d', (p.2.set i (.own t q.2.2))[j]? = some (.own t' d') → ∃ t'' d'', p.2[j]? = some (.own t'' d'') := fun j t' d' z => by
            rcases old j t' d' z with ⟨rfl, _, _⟩ | ⟨_, z⟩
            · exact ⟨_, _, e3⟩
            · exact ⟨_, _, z⟩
          obtain ⟨_, _, w1⟩ := f j _ _ z1
          obtain ⟨_, _, w2⟩ := f l _ _ z2
          exact S1.inj j l _ _ _ _ b w1 w2 y1 y2
      cases hb : q.1 with
      | false =>
        rw [hb] at rr
        exact k v F2 H2 (s1.trans st3) Sm rr
      | true =>
        rw [hb] at rr
        obtain ⟨c, rfl, h1, h2, h3, h4⟩ := rr
        obtain ⟨o, ho, _⟩ := h2.ho
        have nc : ∀ b, owA σ (p.2.set i (.own t q.2.2)) b → b ≠ c := fun b z y => by
          subst y
          exact S1.fresh h3 (oin b z)
        refine k _ (upd F2 c o) H2 (s1.trans ⟨st3.keep, st3.dom, st3.le.trans (.of_gr (Gr.new h1)), fun b u z => ?_, st3.own⟩) ⟨fun b u z => ?_, Sm.len, fun j d' z => ?_, fun j t' d' z => ?_, Sm.inj⟩ (h2.rep h1 ho)
        · by_cases hb : b = c
          · subst hb; exact .inr (.inl (.none h3))
          · rw [zAE hb] at z; exact st3.new b u z
        · by_cases hb : b = c
          · subst hb; rw [zAD] at z; rw [ho]; exact z
          · rw [zAE hb] at z; exact Sm.sub b u z
        · obtain ⟨v, y1, y2⟩ := Sm.val j d' z
          exact ⟨v, y1, y2.le (.of_gr (Gr.new h1))⟩
        · obtain ⟨b, y1, y2, y3, y4⟩ := Sm.own j t' d' z
          exact ⟨b, y1, by rw [zAE (nc b ⟨j, t', d', z, y1⟩)]; exact y2, y3.mono (.of_gr (Gr.new h1)) rfl, y4⟩
    · cases hg
  · cases hg
theorem zBA{xn:Str}{q:Pos}(i:Nat)(C:Cal X.prog X.w X.K X.mg X.base x k np m)(hr:Room k X.A)(ha:VA X es gs)(hn:gs.length+1=np:=by rfl)(hg:Gl X x:=by rfl)(hdb:(x==("__debug__":Str))=false:=by decide)
  (he:starEach (.Name xn q::es) X.env=(false,eval (.Name xn q) X.env)::starEach es X.env:=by rfl) (hpl:(backTo pos (starEach es X.env)).any (·.1)=false:=by rfl)
  (hN:X.N[i]?=some xn:=by rfl) (hv:Vis X.env.scope xn:=by first|exact Or.inl rfl|exact Or.inr (Or.inl rfl)|exact Or.inr (Or.inr rfl)) (hd:(xn==("__debug__":Str))=false:=by decide)
  (hcd:(xn==("__classdict__":Str))=false:=by decide):VE X (.Call (.Name x p) (.Name xn q::es) [] pos) (zAQ m i gs):=by
 obtain⟨f,fd,ps,Fn,hm,hk,hb⟩:=C
 exact(zHB Fn hr hg hm hk hb .nil zRW (zBF (zFF hN hv hd hcd) ha he) hdb he hpl).imp λ_ _ _ h=>zSE hn h
end
theorem PTs.imp{X:Cx}{es:List Expr}{t t':TT}(h:PTs X es t)(hi:∀σ H Q,t' σ H Q->t σ H Q):PTs X es t':=λpins s σ H Q I q=>h pins s σ H Q I (hi σ H Q q)
abbrev VTs(X:Cx)(es:List Expr)(g:Ev->Out (Bool×Ev)):Prop:=PTs X es (tT X.K X.H₀ g)
noncomputable def zQ4:Ev->Out (Bool×Ev):=λE=>.ok (true,E)
theorem zK7{X:Cx}:VTs X [] zQ4:=pts_nil.imp λσ H Q h=>by
 obtain⟨τ,F,E,d,E',S,hg,k⟩:=h
 cases hg
 exact k F H .refl S
theorem zK8{X:Cx}{c:Expr}{t:Ev->Out (Bool×Ev)}(h:VT X c t):VTs X [c] t:=zVG h
theorem zPJ{l:List Nat}(h:l.Nodup){i j x:Nat}(hi:l[i]?=some x)(hj:l[j]?=some x):i=j:=by
 obtain⟨a1,a2⟩:=List.getElem?_eq_some_iff.mp hi
 obtain⟨b1,b2⟩:=List.getElem?_eq_some_iff.mp hj
 have p:=List.pairwise_iff_getElem.mp h
 rcases Nat.lt_trichotomy i j with z|z|z
 ·exact absurd (a2.trans b2.symm) (p i j a1 b1 z)
 ·exact z
 ·exact absurd (b2.trans a2.symm) (p j i b1 a1 z)
noncomputable def zK9(k:Nat)(js:List Nat)(E:Ev):Ev:=List.replicate k .no++js.map λj=>(E[j]?).getD .no
noncomputable def zLA(j:Nat):List Nat->Nat->Option Nat
 |[],_=>none
 |x::xs,n=>if x=j then some n else zLA j xs (n+1)
theorem zGU{j:Nat}:∀{js:List Nat} {n0 n:Nat},zLA j js n0=some n->∃m,n=n0+m/\js[m]?=some j
 |[],_,_,h=>by cases h
 |x::xs,n0,n,h=>by
  rw[zLA] at h
  split at h
  ·rename_i hx;cases h;exact⟨0,rfl,by simp[hx]⟩
  ·obtain⟨m,h1,h2⟩:=zGU h;exact⟨m+1,by lia,by simpa using h2⟩
theorem zGV{j:Nat}:∀{js:List Nat} {n0:Nat},zLA j js n0=none->j∉js
 |[],_,_=>by simp
 |x::xs,n0,h=>by
  rw[zLA] at h
  split at h
  ·cases h
  ·rename_i hx
   have:=zGV h
   simp only[List.mem_cons,not_or]
   exact⟨λz=>hx z.symm,this⟩
noncomputable def zT5(Ec:Ev)(k:Nat)(js:List Nat)(j:Nat):Sl->Sl
 |.own t d=>match zLA j js 0 with
  |some n=>(Ec[k+n]?).getD .no
  |none=>.own t d
 |s=>s
noncomputable def zPK(Ec:Ev)(k:Nat)(js:List Nat):Nat->Ev->Ev
 |_,[]=>[]
 |j,s::E=>zT5 Ec k js j s::zPK Ec k js (j+1) E
noncomputable abbrev bck(E Ec:Ev)(k:Nat)(js:List Nat):Ev:=zPK Ec k js 0 E
theorem zMG(Ec:Ev)(k:Nat)(js:List Nat):∀(E:Ev) (j0 j:Nat),(zPK Ec k js j0 E)[j]?=(E[j]?).map (zT5 Ec k js (j0+j))
 |[],_,_=>by simp[zPK]
 |s::E,j0,0=>by simp[zPK]
 |s::E,j0,j+1=>by
  show(zPK Ec k js (j0+1) E)[j]?=_
  rw[zMG Ec k js E (j0+1) j,List.getElem?_cons_succ,show j0+1+j=j0+(j+1) by lia]
theorem zMH(Ec:Ev)(k:Nat)(js:List Nat):∀(E:Ev) (j0:Nat),(zPK Ec k js j0 E).length=E.length
 |[],_=>rfl
 |s::E,j0=>by rw[zPK,List.length_cons,List.length_cons,zMH Ec k js E (j0+1)]
theorem zHY{E Ec:Ev}{k:Nat}{js:List Nat}{j:Nat}{s:Sl}(h:(bck E Ec k js)[j]?=some s):(E[j]?=some s/\((∃t d,s=.own t d)->j∉js))\/∃t d n,E[j]?=some (.own t d)/\js[n]?=some j/\s=(Ec[k+n]?).getD .no:=by
 rw[zMG,Nat.zero_add] at h
 cases q:E[j]? with
 |none=>rw[q] at h;cases h
 |some s0 =>
  rw[q] at h
  have h:zT5 Ec k js j s0=s:=Option.some.inj h
  cases s0 with
  |no=>cases h;exact .inl ⟨rfl,λ⟨_,_,z⟩=>by cases z⟩
  |val d=>cases h;exact .inl ⟨rfl,λ⟨_,_,z⟩=>by cases z⟩
  |own t d =>
   cases f:zLA j js 0 with
   |none =>
    have:zT5 Ec k js j (.own t d)=.own t d:=by unfold zT5;rw[f]
    rw[this] at h
    exact .inl ⟨by rw[h],λ_=>zGV f⟩
   |some n =>
    obtain⟨m,h1,h2⟩:=zGU f
    have:zT5 Ec k js j (.own t d)=(Ec[k+n]?).getD .no:=by unfold zT5;rw[f]
    rw[this] at h
    exact .inr ⟨t,d,m,rfl,h2,by rw[<-h];congr 2;lia⟩
theorem zFN{k:Nat}{js:List Nat}{E:Ev}{i:Nat}{s:Sl}(h:(zK9 k js E)[i]?=some s)(hs:s≠.no):∃n j,i=k+n/\js[n]?=some j/\E[j]?=some s:=by
 unfold zK9 at h
 by_cases hi:i<k
 ·rw[List.getElem?_append_left (by rw[List.length_replicate];exact hi),List.getElem?_replicate,if_pos hi] at h
  exact absurd (Option.some.inj h).symm hs
 ·rw[List.getElem?_append_right (by rw[List.length_replicate];lia),List.length_replicate,List.getElem?_map] at h
  cases q:js[i-k]? with
  |none=>rw[q] at h;cases h
  |some j =>
   rw[q] at h
   have h:(E[j]?).getD .no=s:=Option.some.inj h
   refine⟨i-k,j,by lia,q,?_⟩
   cases z:E[j]? with
   |none=>rw[z] at h;exact absurd h.symm hs
   |some s'=>rw[z] at h;rw[<-h];rfl
theorem zCQ{k:Nat}{js:List Nat}{σ:St}{n j:Nat}(h:js[n]?=some j):(zC8 k js σ)[k+n]?=some ((σ[j]?).getD none):=by
 unfold zC8
 rw[List.getElem?_append_right (by rw[List.length_replicate];lia),List.length_replicate,List.getElem?_map,show k+n-k=n by lia,h]
 rfl
section
variable{K:PySem.W.Frag}{H₀ F H F1 H1 F2 H2:Hp}{τ:Addr}{σ σ2:St}{E E1 E2:Ev}{k:Nat}{js:List Nat}{acc:Addr}{o:HO}
theorem Sim.off(S:Sim K H₀ τ F H σ E)(hf:F acc=none)(no:¬owA σ E acc):Sim K H₀ τ F (upd H acc o) σ E:=by
 refine⟨λa u e=>?_,S.len,S.val,λi t d e=>?_,S.inj⟩
 ·have:a≠acc:=λz=>by rw[z,hf] at e;cases e
  rw[zAE this];exact S.sub a u e
 ·obtain⟨a,h1,h2,h3,h4⟩:=S.own i t d e
  have:a≠acc:=λz=>no ⟨i,t,d,e,by rw[<-z];exact h1⟩
  exact⟨a,h1,h2,h3.mono (.refl _) (zAE this),h4⟩
theorem Sim.notF(S:Sub F H)(h:H acc=none):F acc=none:=by
 cases e:F acc with
 |none=>rfl
 |some u=>rw[S acc u e] at h;cases h
theorem zPL{a:Addr}(h:owA (zC8 k js σ) (zK9 k js E) a):∃(n j:Nat) (t:Bool) (d:D),js[n]?=some j/\E[j]?=some (.own t d)/\σ[j]?=some (some (.ref a)):=by
 obtain⟨i,t,d,e1,e2⟩:=h
 obtain⟨n,j,rfl,h1,h2⟩:=zFN e1 (by intro z;cases z)
 rw[zCQ h1] at e2
 refine⟨n,j,t,d,h1,h2,?_⟩
 cases q:σ[j]? with
 |none=>rw[q] at e2;cases e2
 |some z=>rw[q] at e2;cases e2;rfl
theorem Sim.enter(S:Sim K H₀ τ F H σ E)(k:Nat)(hj:js.Nodup)(ha:H acc=none):Sim K (upd H acc o) τ F (upd H acc o) (zC8 k js σ) (zK9 k js E):=by
 have hf:=Sim.notF S.sub ha
 refine⟨λa u e=>?_,by unfold zK9 zC8;simp,λi d e=>?_,λi t d e=>?_,λi j t u d d' a e1 e2 z1 z2=>?_⟩
 ·have:a≠acc:=λz=>by rw[z,hf] at e;cases e
  rw[zAE this];exact S.sub a u e
 ·obtain⟨n,j,rfl,h1,h2⟩:=zFN e (by intro z;cases z)
  obtain⟨v,h3,h4⟩:=S.val j d h2
  exact⟨v,by rw[zCQ h1,h3];rfl,h4⟩
 ·obtain⟨n,j,rfl,h1,h2⟩:=zFN e (by intro z;cases z)
  obtain⟨a,h3,h4,h5,h6,h7⟩:=S.own j t d h2
  obtain⟨ob,ho,hw⟩:=h5.ho
  have:a≠acc:=λz=>by rw[z,ha] at ho;cases ho
  exact⟨a,by rw[zCQ h1,h3];rfl,h4,h5.mono (.refl _) (zAE this),λw u z=>by rw[zAE this,ho] at z;cases z;exact hw,h7⟩
 ·obtain⟨n,l,rfl,h1,h2⟩:=zFN e1 (by intro z;cases z)
  obtain⟨n',l',rfl,h1',h2'⟩:=zFN e2 (by intro z;cases z)
  rw[zCQ h1] at z1
  rw[zCQ h1'] at z2
  have w1:σ[l]?=some (some (.ref a)):=by
   cases q:σ[l]? with
   |none=>rw[q] at z1;cases z1
   |some z=>rw[q] at z1;cases z1;rfl
  have w2:σ[l']?=some (some (.ref a)):=by
   cases q:σ[l']? with
   |none=>rw[q] at z2;cases z2
   |some z=>rw[q] at z2;cases z2;rfl
  have:=S.inj l l' t u d d' a h2 h2' w1 w2
  subst this
  rw[zPJ hj h1 h1']
theorem Sim.leave (S : Sim K H₀ τ F1 H1 σ E1) (ha : H1 acc = none) (s : Stp (fun a => owA (zC8 k js σ) (zK9 k js E1) a ∨ a = acc) F1 (upd H1 acc o) F2 H2 (owA σ2 E2))
    (S2 : Sim K (upd H1 acc o) τ F2 H2 σ2 E2) (hs : ∀ j : Nat, k ≤ j → σ2[j]? = (zC8 k js σ)[j]?) :
    Sim K H₀ τ F2 H2 σ (bck E1 E2 k js) ∧ Stp (owA σ E1) F1 H1 F2 H2 (owA σ (bck E1 E2 k js)) := by
  have cow : ∀ a, owA (zC8 k js σ) (zK9 k js E1) a → owA σ E1 a := fun a h => let ⟨n, j, t, d, _, h2, h3⟩ := zPL h; ⟨j, t, d, h2, h3⟩
  have ne : ∀ a u, H1 a = some u → a ≠ acc := fun a u e z => by rw [z, ha] at e; cases e
  have slot : ∀ (n j : Nat), js[n]? = some j → σ2[k + n]? = some ((σ[j]?).getD none) := fun n j h => by rw [hs (k + n) (by lia), zCQ h]
  have inown : ∀ (j : Nat) t d, (bck E1 E2 k js)[j]? = some (.own t d) → ∃ t' d', E1[j]? = some (.own t' d') := fun j t d e => by
    rcases zHY e with ⟨h, _⟩ | ⟨t', d', n, h, _⟩
    · exact ⟨t, d, h⟩
    · exact ⟨t', d', h⟩
  have st : Stp (owA σ E1) F1 H1 F2 H2 (owA σ (bck E1 E2 k js)) := by
    refine ⟨fun a u e hw n ho => s.keep a u (by rw [zAE (ne a u e)]; exact e) hw n fun z => z.elim (fun z => ho (cow a z)) (ne a u e), fun a e => ?_, s.le, fun a u e => ?_, fun a ⟨j, t, d, e1, e2⟩ => ?_⟩
    · have := s.dom a e
      by_cases h : a = acc
      · rw [h]; exact ha
      · rw [zAE h] at this; exact this
    · rcases s.new a u e with z | z | z | z
      · exact .inl z
      · by_cases h : a = acc
        · rw [h]; exact .inr (.inl (.none ha))
        · exact .inr (.inl fun o' e' => z o' (by rw [zAE h]; exact e'))
      · exact .inr (.inr (cow a z))
      · rw [z]; exact .inr (.inl (.none ha))
    · obtain ⟨t', d', h⟩ := inown j t d e1
      exact .inl ⟨j, t', d', h, e2⟩
  refine ⟨⟨S2.sub, by rw [zMH]; exact S.len, fun j d e => ?_, fun j t d e => ?_, fun i j t u d d' a e1 e2 z1 z2 => ?_⟩, st⟩
  · rcases zHY e with ⟨h, _⟩ | ⟨t', d', n, h, h1, h2⟩
    · obtain ⟨v, h1, h2⟩ := S.val j d h
      exact ⟨v, h1, h2.le s.le⟩
    · have e2 : E2[k + n]? = some (.val d) := by
        cases q : E2[k + n]? with
        | none => rw [q] at h2; cases h2
        | some z => rw [q] at h2; rw [h2]; rfl
      obtain ⟨v, h3, h4⟩ := S2.val _ d e2
      rw [slot n j h1] at h3
      refine ⟨v, ?_, h4⟩
      cases q : σ[j]? with
      | none => rw [q] at h3; cases h3
      | some z => rw [q] at h3; cases h3; rfl
  · rcases zHY e with ⟨h, h'⟩ | ⟨t', d', n, h, h1, h2⟩
    · have hj := h' ⟨t, d, rfl⟩
      obtain ⟨a, c1, c2, c3, c4⟩ := S.own j t d h
      obtain ⟨ob, ho, hw⟩ := c3.ho
      have nc : ¬ (owA (zC8 k js σ) (zK9 k js E1) a ∨ a = acc) := fun z => by
        rcases z with z | z
        · obtain ⟨n, l, t2, d2, y1, y2, y3⟩ := zPL z
          have := S.inj j l t t2 d d2 a h y2 c1 y3
          subst this
          exact hj (List.mem_of_getElem? y1)
        · exact ne a ob ho z
      refine ⟨a, c1, ?_, c3.mono s.le ((s.keep a ob (by rw [zAE (ne a ob ho)]; exact ho) hw c2 nc).trans ho.symm), c4⟩
      cases y : F2 a with
      | none => rfl
      | some u => rcases s.new a u y with y | y | y
                  · exact absurd c2 y
                  · exact absurd hw (y ob (by rw [zAE (ne a ob ho)]; exact ho))
                  · exact absurd y nc
    · have e2 : E2[k + n]? = some (.own t d) := by
        cases q : E2[k + n]? with
        | none => rw [q] at h2; cases h2
        | some z => rw [q] at h2; rw [h2]; rfl
      obtain ⟨a, h3, h4, h5, h6, h7⟩ := S2.own _ t d e2
      rw [slot n j h1] at h3
      obtain ⟨a', c1, c2, c3, c4, c5⟩ := S.own j t' d' h
      rw [c1] at h3
      cases h3
      exact ⟨a, c1, h4, h5, c4, h7⟩
  · obtain ⟨_, _, h1⟩ := inown i t d e1
    obtain ⟨_, _, h2⟩ := inown j u d' e2
    exact S.inj i j _ _ _ _ a h1 h2 z1 z2
end
section
variable{X:Cx}{scope:Scope}{cl:List (Str×Addr)}{own caps:List Str}{js:List Nat}{K:PySem.W.Frag}{H₀:Hp}
end
abbrev GM:=D->Ev->Out (D×Ev)
theorem Stp.more{ow ow1:Addr->Prop}{F H F1 H1:Hp}{acc:Addr}(x:Stp ow F H F1 H1 ow1):Stp (λa=>ow a\/a=acc) F H F1 H1 (λa=>ow1 a\/a=acc) :=
 ⟨λa o e w f n=>x.keep a o e w f λz=>n (.inl z),x.dom,x.le,λa o e=>(x.new a o e).imp id λz=>z.imp id .inl,λa q=>q.elim (λz=>(x.own a z).imp .inl id) λz=>.inl (.inr z)⟩
def tMA(K:PySem.W.Frag)(H₀:Hp)(acc:Addr)(k:Nat)(g:GM):TM:=λσ H N=>∃τ F E d d' E',Sim K H₀ τ F H σ E/\F acc=none/\¬owA σ E acc/\OwnAt K F H acc d/\g d E=.ok (d',E') /\
 ∀σ' F' H',Stp (λa=>owA σ E a\/a=acc) F H F' H' (λa=>owA σ' E' a\/a=acc)->Sim K H₀ τ F' H' σ' E'->F' acc=none->¬owA σ' E' acc->OwnAt K F' H' acc d'->(∀j:Nat,k<=j->σ'[j]?=σ[j]?)->N σ' H'
noncomputable def zNJ(t:Tg)(tt:Ev->Out (Bool×Ev))(gm:GM):List D->GM
 |[],d,E=>.ok (d,E)
 |x::xs,d,E=>(gTg t x E).bind λE1=>(tt E1).bind λb=>if b.1=true then(gm d b.2).bind λq=>zNJ t tt gm xs q.1 q.2 else zNJ t tt gm xs d b.2
section
variable{X:Cx}{K:PySem.W.Frag}{H₀ F H F1 H1:Hp}{τ:Addr}{σ:St}{E:Ev}{acc:Addr}{k:Nat}{pos:Pos}
theorem zSF {σ' : St} {Ea Eb : Ev} {Fa Ha Fb Hb : Hp} {d : D} (st : Stp (owA σ' Ea) Fa Ha Fb Hb (owA σ' Eb)) (a1 : Fa acc = none) (a2 : ¬ owA σ' Ea acc) (a3 : OwnAt K Fa Ha acc d) : Fb acc = none ∧ ¬ owA σ' Eb acc ∧ OwnAt K Fb Hb acc d := by
  obtain ⟨o, ho, hw⟩ := a3.ho
  have hb := st.keep acc o ho hw a1 a2
  refine ⟨?_, fun z => (st.own acc z).elim a2 fun z => by (rw [ho] at z; cases z), a3.mono st.le (hb.trans ho.symm)⟩
  cases z : Fb acc with
  | none => rfl
  | some u => rcases st.new acc u z with z | z | z
              · exact absurd a1 z
              · exact absurd hw (z _ ho)
              · exact absurd z a2
theorem yBS{J:It}{t:Tg}{tt:Ev->Out (Bool×Ev)}{gm:GM}{ds:List D}(hlt:t.ltn k=true){N:St->Hp->Prop}{d d':D}{E':Ev}(S:Sim K H₀ τ F H σ E)(hf:F acc=none)(no:¬owA σ E acc)(ho:OwnAt K F H acc d)(hw:Walks K J F ds)
  (hg:zNJ t tt gm ds d E=.ok (d',E'))
  (hN:∀σ' F' H',Stp (λa=>owA σ E a\/a=acc) F H F' H' (λa=>owA σ' E' a\/a=acc)->Sim K H₀ τ F' H' σ' E'->F' acc=none->¬owA σ' E' acc->OwnAt K F' H' acc d'->(∀j:Nat,k<=j->σ'[j]?=σ[j]?)->N σ' H') :
  tWalkC J (tG K H₀ t) (tT K H₀ tt) (tMA K H₀ acc k gm) σ H N:=by
 refine⟨λi m σ2 H2=>m=ds.length-i/\i<=ds.length/\∃F2 E2 d2,Sim K H₀ τ F2 H2 σ2 E2/\Stp (λa=>owA σ E a\/a=acc) F H F2 H2 (λa=>owA σ2 E2 a\/a=acc) /\
   F2 acc=none/\¬owA σ2 E2 acc/\OwnAt K F2 H2 acc d2/\(∀j:Nat,k<=j->σ2[j]?=σ[j]?)/\zNJ t tt gm (ds.drop i) d2 E2=.ok (d',E'),
  ⟨_,rfl,Nat.zero_le _,F,E,d,S,Stp.refl,hf,no,ho,λ_ _=>rfl,by rw[List.drop_zero];exact hg⟩,?_⟩
 rintro i m σ2 H2 ⟨rfl,hil,F2,E2,d2,S2,s2,f2,n2,o2,hs2,g2⟩
 obtain⟨w2,w3,w4⟩:=hw i F2 H2 s2.le S2.sub
 by_cases hi:i<ds.length
 ·obtain⟨x,hd⟩:∃d,ds[i]?=some d:=⟨ds[i],by simp[hi]⟩
  have hdr:ds.drop i=x::ds.drop (i+1):=by
   rw[List.drop_eq_getElem_cons hi]
   have:ds[i]=x:=by rw[List.getElem?_eq_getElem hi] at hd;exact Option.some.inj hd
   rw[this]
  rw[hdr,zNJ] at g2
  obtain⟨E3,e3,g2⟩:=Out.bind_ok g2
  obtain⟨b,e4,g2⟩:=Out.bind_ok g2
  refine .inr ⟨w2 hi,λy H' yl=>?_⟩
  obtain⟨F3,n3,r3⟩:=w4 y H' x hd yl
  obtain⟨f3,m3,o3⟩:=zSF (n3.stp (ow:=owA σ2 E2)) f2 n2 o2
  refine⟨τ,F3,E2,x,E3,S2.new n3,r3,e3,λσ4 S4 o4 b4=>?_⟩
  have m4:¬owA σ4 E3 acc:=λz=>n2 (o4 acc z)
  have hs4:∀j:Nat,k<=j->σ4[j]?=σ[j]?:=λj hj=>by rw[b4 k hlt j hj,hs2 j hj]
  have s4:Stp (λa=>owA σ E a\/a=acc) F H F3 H' (λa=>owA σ4 E3 a\/a=acc):=(s2.trans n3.stp).weak λa z=>z.imp (o4 a) id
  refine⟨τ,F3,E3,b.1,b.2,S4,e4,λF5 H5 s5 S5=>?_⟩
  obtain⟨f5,m5,o5⟩:=zSF s5 f3 m4 o3
  have s5':=s4.trans (s5.more (acc:=acc))
  dsimp only
  by_cases hb:b.1=true
  ·rw[if_pos hb] at g2 ⊢
   obtain⟨z,e6,g2⟩:=Out.bind_ok g2
   refine⟨τ,F5,b.2,d2,z.1,z.2,S5,f5,m5,o5,e6,λσ6 F6 H6 s6 S6 f6 m6 o6 hs6=>?_⟩
   exact⟨_,by lia,rfl,hi,F6,z.2,z.1,S6,s5'.trans s6,f6,m6,o6,λj hj=>by rw[hs6 j hj,hs4 j hj],g2⟩
  ·rw[if_neg hb] at g2 ⊢
   exact⟨_,by lia,rfl,hi,F5,b.2,d2,S5,s5',f5,m5,o5,hs4,g2⟩
 ·have hi:i=ds.length:=by lia
  rw[List.drop_eq_nil_of_le (by lia),zNJ] at g2
  cases g2
  exact .inl ⟨w3 hi,hN σ2 F2 H2 s2 S2 f2 n2 o2 hs2⟩
theorem zZD{σ':St}{E':Ev}{F6 H6:Hp}{o:HO}(s6:Stp (owA σ E) F H F6 H6 (owA σ' E')):Stp (λa=>owA σ E a\/a=acc) F H F6 (upd H6 acc o) (λa=>owA σ' E' a\/a=acc):=by
 have st:=s6.more (acc:=acc)
 refine⟨λa u e hw n ho=>by rw[zAE (λy=>ho (.inr y))];exact st.keep a u e hw n ho,λa e=>?_,st.le,st.new,st.own⟩
 by_cases hac:a=acc
 ·rw[hac,zAD] at e;cases e
 ·rw[zAE hac] at e;exact st.dom a e
noncomputable def zVT(ge:G):GM:=λd E=>(ge E).bind λp=>match d with|.lst ds=>few ds.length (.ok (.lst (ds++[p.1]),p.2))|_=>.bad
theorem zSG{ge:G}{N:St->Hp->Prop}(h:tMA K H₀ acc k (zVT ge) σ H N):zI9 acc (tV K H₀ ge) σ H N:=by
 obtain⟨τ,F,E,d,d',E',S,f,n,o,hg,k⟩:=h
 obtain⟨p,e1,hg⟩:=Out.bind_ok hg
 split at hg
 ·rename_i ds
  obtain⟨hz,hg⟩:=zCH hg
  cases hg
  refine⟨τ,F,E,p.1,p.2,S,e1,λy F6 H6 s6 S6 r6=>?_⟩
  obtain⟨f6,m6,ys,h6,r2⟩:=zSF s6 f n o
  exact⟨ys,h6,by rw[r2.length];exact zDQ hz,k σ F6 _ (zZD s6) (S6.off f6 m6) f6 m6 ⟨_,zAD,r2.append (.cons r6 .nil)⟩ λ_ _=>rfl⟩
 ·cases hg
noncomputable def zFO(gi:GI)(k:Nat)(js:List Nat)(d0:D)(t:Tg)(tt:Ev->Out (Bool×Ev))(gm:GM):G:=λE=>(gi E).bind λp=>(zNJ t tt gm p.1 d0 (zK9 k js p.2)).bind λq=>.ok (q.1,bck p.2 q.2 k js)
theorem zMI{gi:GI}{k:Nat}{js:List Nat}{d0:D}{o:HO}{t:Tg}{tt:Ev->Out (Bool×Ev)}{gm:GM}(hd0:∀(F H:Hp) (a:Addr),OwnAt K F (upd H a o) a d0)(hlt:t.ltn k=true)(hj:js.Nodup){σ:St}{H:Hp}{Q:VK}(h:tF K H₀ (zFO gi k js d0 t tt gm) σ H Q) :
  zGN (tI K H₀ gi) k js o (λH=>tG K H t) (λH=>tT K H tt) (λH acc=>tMA K H acc k gm) σ H Q:=by
 obtain⟨τ,F,E,d,E',S,hg,kq⟩:=h
 obtain⟨p,e1,hg⟩:=Out.bind_ok hg
 obtain⟨q,e2,hg⟩:=Out.bind_ok hg
 cases hg
 refine⟨τ,F,E,p.1,p.2,S,e1,λJ F1 H1 s1 S1 w1 acc ha=>?_⟩
 have hf:=Sim.notF S1.sub ha
 have S0:=S1.enter (o:=o) k hj ha
 have no:¬owA (zC8 k js σ) (zK9 k js p.2) acc:=λz=>by
  obtain⟨n,j,t',d',_,z2,z3⟩:=zPL z
  exact S1.fresh ha ⟨j,t',d',z2,z3⟩
 refine yBS hlt S0 hf no (hd0 _ _ _) w1 e2 λσ2 F2 H2 s2 S2 f2 n2 o2 hs2=>?_
 have s2':Stp (λa=>owA (zC8 k js σ) (zK9 k js p.2) a\/a=acc) F1 (upd H1 acc o) F2 H2 (owA σ2 q.2):=s2.weak λa z=>.inl z
 obtain⟨S9,s9⟩:=S1.leave ha s2' S2 hs2
 refine kq acc F2 H2 (s1.trans s9) S9 f2 (s1.dom acc ha) o2 λz=>?_
 exact(s9.own acc z).elim (λy=>S1.fresh ha y) λy=>S1.fresh ha (by
   obtain⟨j,t',d',z1,z2⟩:=z
   rcases zHY z1 with⟨h,_⟩|⟨t'',d'',n,h,_⟩
   ·exact⟨j,t',d',h,z2⟩
   ·exact⟨j,t'',d'',h,z2⟩)
theorem tWalkC.imp{J:It}{g:TG}{tt:TT}{tm tm':TM}(hi:∀σ H N,tm σ H N->tm' σ H N){N:St->Hp->Prop}(mt:∀(σ:St) (H:Hp) (P P':Bool->Hp->Prop),(∀b H2,P b H2->P' b H2)->tt σ H P->tt σ H P')(mg:∀(x:V) (σ:St) (H:Hp) (P P':St->Hp->Prop),(∀σ2 H2,P σ2 H2->P' σ2 H2)->g x σ H P->g x σ H P')(h:tWalkC J g tt tm σ H N):tWalkC J g tt tm' σ H N:=by
 obtain⟨W,w0,turn⟩:=h
 refine⟨W,w0,λi m σ H w=>(turn i m σ H w).imp id λ⟨go,st⟩=>⟨go,λx H' y=>mg _ _ _ _ _ (λσ2 H2 q=>mt _ _ _ _ (λb H3 q=>?_) q) (st x H' y)⟩⟩
 cases b with
 |true=>rw[if_pos rfl] at q ⊢;exact hi _ _ _ q
 |false=>rw[if_neg Bool.false_ne_true] at q ⊢;exact q
theorem zPM{tt:Ev->Out (Bool×Ev)}(σ:St)(H:Hp)(P P':Bool->Hp->Prop)(hp:∀b H2,P b H2->P' b H2)(h:tT K H₀ tt σ H P):tT K H₀ tt σ H P' :=
 let ⟨τ,F,E,b,E',S,hg,k⟩:=h;⟨τ,F,E,b,E',S,hg,λF' H' s S'=>hp _ _ (k F' H' s S')⟩
theorem zPN{t:Tg}(x:V)(σ:St)(H:Hp)(P P':St->Hp->Prop)(hp:∀b H2,P b H2->P' b H2)(h:tG K H₀ t x σ H P):tG K H₀ t x σ H P' :=
 let ⟨τ,F,E,d,E',S,r,hg,k⟩:=h;⟨τ,F,E,d,E',S,r,hg,λσ' a b c=>hp _ _ (k σ' a b c)⟩
variable{scope:Scope}{cl:List (Str×Addr)}{own caps:List Str}{js:List Nat}
theorem zPO{gi:GI}{R R':It->Hp->Prop}(hp:∀J H2,R J H2->R' J H2)(h:tI K H₀ gi σ H R):tI K H₀ gi σ H R' :=
 let ⟨τ,F,E,ds,E',S,hg,k⟩:=h;⟨τ,F,E,ds,E',S,hg,λJ F' H' a b c=>hp _ _ (k J F' H' a b c)⟩
noncomputable def zDW(gi:GI)(k:Nat)(js:List Nat)(t:Tg)(tt:Ev->Out (Bool×Ev))(ge:G):G:=zFO gi k js (.lst []) t tt (zVT ge)
theorem zPP{gi:GI}{k:Nat}{t:Tg}{tt:Ev->Out (Bool×Ev)}{ge:G}(hlt:t.ltn k=true)(hj:js.Nodup){σ:St}{H:Hp}{Q:VK}(h:tF K H₀ (zDW gi k js t tt ge) σ H Q) :
  zGN (tI K H₀ gi) k js (.lst []) (λH=>tG K H t) (λH=>tT K H tt) (λH acc=>zI9 acc (tV K H ge)) σ H Q :=
 zPO (λJ H2 q acc ha=>tWalkC.imp (λ_ _ _ z=>zSG z) (λσ H=>zPM σ H) (λx σ H=>zPN x σ H) (q acc ha)) (zMI (o:=.lst []) (d0:=.lst []) (λF H a=>⟨[],zAD,.nil⟩) hlt hj h)
theorem zMJ{elt tg iter:Expr}{ifs:List Expr}{pos:Pos}{gi:GI}{t:Tg}{tt:Ev->Out (Bool×Ev)}{ge:G}(n:CompNm X scope cl own caps js)(hc:X.calm=true)(hi:VI X tg iter gi)
  (hg:∀C s H fp,VG (zAT X scope cl (own++caps) C s H fp) tg t) (ht:∀C s H fp,VTs (zAT X scope cl (own++caps) C s H fp) ifs tt) (he:∀C s H fp,VE (zAT X scope cl (own++caps) C s H fp) elt ge)
  (hlt:t.ltn own.length=true:=by rfl) (hj:js.Nodup:=by decide) (hs:∀x,foldedSetIterable iter X.env x=pure x:=by intro _;rfl):FE X (.ListComp elt [⟨tg,iter,ifs,0⟩] scope pos) (zDW gi own.length js t tt ge) :=
 (zVI (g:=λH=>tG X.K H t) (tt:=λH=>tT X.K H tt) (te:=λH=>tV X.K H ge) n hc hi hg ht he hs).imp λ_ _ _ h=>zPP hlt hj h
end
mutual
noncomputable def D.py:D->Option PyData
 |.non=>some .none
 |.bl b=>some (.bool b)
 |.int i=>some (.int i)
 |.str x=>if PyData.canLay0 (.str x)=true then some (.str x) else none
 |.tup xs=>(D.pys xs).map .tuple
 |.lst xs=>(D.pys xs).map .list
 |.dk _=>none
 |.dt _=>none
noncomputable def D.pys:List D->Option (List PyData)
 |[]=>some []
 |d::ds=>match d.py,D.pys ds with
  |some p,some ps=>some (p::ps)
  |_,_=>none
end
section
variable{K:PySem.W.Frag}{F H:Hp}
mutual
theorem Rep.dv(s:Sub F H):∀(d:D) {v:V} {p:PyData},Rep K F v d->d.py=some p->DV K H v p
 |.non,_,_,.non,e=>by rw[D.py] at e;cases e;exact .non
 |.bl b,_,_,.bl _,e=>by rw[D.py] at e;cases e;exact .bl b
 |.int i,_,_,.int _,e=>by rw[D.py] at e;cases e;exact .int i
 |.str x,_,_,.str _,e=>by
  rw[D.py] at e
  split at e
  ·rename_i h;cases e;exact .str x h
  ·cases e
 |.tup xs,_,_,r,e=>by
  rw[D.py] at e
  obtain⟨ps,h1,h2⟩:=Option.map_eq_some_iff.mp e
  subst h2
  obtain⟨a,vs,rfl,r,sq⟩:=r.tupSq
  exact .tup (sq F H (.refl _) s) (Reps.dv s xs r h1)
 |.lst xs,_,_,.lst h r,e=>by
  rw[D.py] at e
  obtain⟨ps,h1,h2⟩:=Option.map_eq_some_iff.mp e
  subst h2
  exact .lst (h.imp s.rd id) (Reps.dv s xs r h1)
 |.dk _,_,_,_,e=>by rw[D.py] at e;cases e
 |.dt _,_,_,_,e=>by rw[D.py] at e;cases e
theorem Reps.dv(s:Sub F H):∀(d:List D) {v:List V} {p:List PyData},Reps K F v d->D.pys d=some p->DVs K H v p
 |[],_,_,.nil,e=>by rw[D.pys] at e;cases e;exact .nil
 |d::ds,_,_,.cons h r,e=>by
  rw[D.pys] at e
  split at e
  ·rename_i p ps e1 e2
   cases e
   exact .cons (Rep.dv s d h e1) (Reps.dv s ds r e2)
  ·cases e
end
end
noncomputable def eqD(x y:D):Out D:=match x.py,y.py with
 |some p,some q=>if min p.depth q.depth<=60 then .ok (.bl (PyData.eqv p q)) else .bad
 |_,_=>.bad
noncomputable def neD(x y:D):Out D:=match x.py,y.py with
 |some p,some q=>if min p.depth q.depth<=60 then .ok (.bl (!PyData.eqv p q)) else .bad
 |_,_=>.bad
section
variable{X:Cx}{K:PySem.W.Frag}{F H:Hp}{a b c e:Expr}{ga gb ge:G}{pos:Pos}
theorem zZE:OpS K (yBN K true) neD:=λv u x y F H d Q s r1 r2 hf k=>by
 unfold neD at hf
 split at hf
 ·rename_i p q e1 e2
  split at hf
  ·rename_i hm
   cases hf
   exact⟨p,q,r1.dv s _ e1,r2.dv s _ e2,hm,k _ F H (.refl s) (.bl _)⟩
  ·cases hf
 ·cases hf
theorem zGA(hu:X.A.units+64<cLine)(ha:VE X a ga)(hb:VE X b gb)(hm:behindInMarks .NotEq b=false:=by with_unfolding_all rfl):VT X (.Compare a [.NotEq] [b] pos) (gB (g2 neD ga gb)):=zD6 (zY0 hu) zZE ha hb hm
end
section
variable{κ:Type}[DecidableEq κ]
noncomputable def zDX(kvs:List (κ×D))(k:κ):Option D:=(kvs.find? λkv=>decide (kv.1=k)).map (·.2)
noncomputable def zEE(kvs:List (κ×D))(k:κ)(v:D):List (κ×D) :=
 if(kvs.any λkv=>decide (kv.1=k))=true then kvs.map (λkv=>if kv.1=k then(kv.1,v) else kv) else kvs++[(k,v)]
end
noncomputable def zHZ:D->Option Key
 |.int i=>some (.inl i)
 |.str x=>some (.inr x)
 |_=>none
noncomputable def zA9:List D->Option (List Int)
 |[]=>some []
 |.int i::ds=>(zA9 ds).map (i::·)
 |_::_=>none
theorem zDE:∀{ds:List D} {ns:List Int},zA9 ds=some ns->ds=ns.map D.int
 |[],_,h=>by rw[zA9] at h;cases h;rfl
 |.int i::ds,_,h=>by
  rw[zA9] at h
  obtain⟨r,h1,h2⟩:=Option.map_eq_some_iff.mp h
  subst h2
  rw[zDE h1];rfl
 |.non::_,_,h=>by simp[zA9] at h
 |.bl _::_,_,h=>by simp[zA9] at h
 |.str _::_,_,h=>by simp[zA9] at h
 |.tup _::_,_,h=>by simp[zA9] at h
 |.lst _::_,_,h=>by simp[zA9] at h
 |.dk _::_,_,h=>by simp[zA9] at h
 |.dt _::_,_,h=>by simp[zA9] at h
theorem zEF:∀ns:List Int,zA9 (ns.map D.int)=some ns
 |[]=>rfl
 |n::ns=>by rw[List.map_cons,zA9,zEF ns];rfl
theorem zH0:∀{a b:List Int},a.map (Sum.inl:Int->Key)=b.map Sum.inl->a=b
 |[],[],_=>rfl
 |[],_::_,h=>by simp at h
 |_::_,[],h=>by simp at h
 |x::a,y::b,h=>by
  rw[List.map_cons,List.map_cons] at h
  injection h with h1 h2
  injection h1 with h1
  rw[h1,zH0 h2]
section
variable{K:PySem.W.Frag}{F H:Hp}
theorem RepK.length:∀{vs:List (Key×V)} {ds:List (Key×D)},RepK K F vs ds->vs.length=ds.length
 |_,_,.nil=>rfl
 |_,_,.cons _ r=>by rw[List.length_cons,List.length_cons,r.length]
theorem RepT.length:∀{vs:List (List Key×V)} {ds:List (List Int×D)},RepT K F vs ds->vs.length=ds.length
 |_,_,.nil=>rfl
 |_,_,.cons _ r=>by rw[List.length_cons,List.length_cons,r.length]
def OpR1(K:PySem.W.Frag)(F:Hp):Option V->Option D->Prop
 |some v,some d=>Rep K F v d
 |none,none=>True
 |_,_=>False
theorem RepK.get(k:Key):∀{vs:List (Key×V)} {ds:List (Key×D)},RepK K F vs ds->OpR1 K F (zE6 vs k) (zDX ds k)
 |_,_,.nil=>trivial
 |_,_,.cons (k:=k') (v:=v) (d:=d) (vs:=vs) (ds:=ds) h r=>by
  by_cases e:k'=k
  ·have e1:zE6 ((k',v)::vs) k=some v:=by simp[zE6,e]
   have e2:zDX ((k',d)::ds) k=some d:=by simp[zDX,e]
   rw[e1,e2];exact h
  ·have e1:zE6 ((k',v)::vs) k=zE6 vs k:=by simp[zE6,e]
   have e2:zDX ((k',d)::ds) k=zDX ds k:=by simp[zDX,e]
   rw[e1,e2];exact RepK.get k r
theorem RepT.get(k:List Int):∀{vs:List (List Key×V)} {ds:List (List Int×D)},RepT K F vs ds->OpR1 K F (zE6 vs (k.map Sum.inl)) (zDX ds k)
 |_,_,.nil=>trivial
 |_,_,.cons (k:=k') (v:=v) (d:=d) (vs:=vs) (ds:=ds) h r=>by
  by_cases e:k'=k
  ·have e1:zE6 ((k'.map Sum.inl,v)::vs) (k.map Sum.inl)=some v:=by simp[zE6,e]
   have e2:zDX ((k',d)::ds) k=some d:=by simp[zDX,e]
   rw[e1,e2];exact h
  ·have e':¬k'.map (Sum.inl:Int->Key)=k.map Sum.inl:=λz=>e (zH0 z)
   have e1:zE6 ((k'.map Sum.inl,v)::vs) (k.map Sum.inl)=zE6 vs (k.map Sum.inl):=by simp[zE6,e']
   have e2:zDX ((k',d)::ds) k=zDX ds k:=by simp[zDX,e]
   rw[e1,e2];exact RepT.get k r
theorem OpR1.isSome{o:Option V}{p:Option D}(h:OpR1 K F o p):o.isSome=p.isSome:=by
 cases o<;>cases p<;>first|rfl|exact h.elim
theorem OpR1.some_of{o:Option V}{d:D}(h:OpR1 K F o (some d)):∃v,o=some v/\Rep K F v d:=by
 cases o with
 |none=>exact h.elim
 |some v=>exact⟨v,rfl,h⟩
theorem OpR1.none_of{o:Option V}(h:OpR1 K F o none):o=none:=by
 cases o with
 |none=>rfl
 |some v=>exact h.elim
noncomputable def zJR:D->D->Option (Option D)
 |.dk kvs,k=>(zHZ k).map (zDX kvs)
 |.dt kvs,.tup ks=>(zA9 ks).map (zDX kvs)
 |_,_=>none
theorem Rep.dget{v u:V}{x y:D}{o:Option D}(s:Sub F H)(r1:Rep K F v x)(r2:Rep K F u y)(h:zJR x y=some o):∃a ov,v=.ref a/\zRR H a u ov/\OpR1 K F ov o:=by
 cases x with
 |dk kvs =>
  obtain⟨k,h1,h2⟩:=Option.map_eq_some_iff.mp (show(zHZ y).map (zDX kvs)=some o from h)
  subst h2
  cases r1 with
  |dk hr r =>
   refine⟨_,_,rfl,.inl ⟨_,k,s.rd hr,?_,rfl⟩,r.get k⟩
   cases y<;>first|cases h1|skip
   ·(first|obtain rfl:=r2.vI|obtain rfl:=r2.vB|obtain rfl:=r2.vS|obtain rfl:=r2.vN|cases r2);rfl
   ·(first|obtain rfl:=r2.vI|obtain rfl:=r2.vB|obtain rfl:=r2.vS|obtain rfl:=r2.vN|cases r2);rfl
 |dt kvs =>
  cases y with
  |tup ks =>
   obtain⟨ns,h1,h2⟩:=Option.map_eq_some_iff.mp (show(zA9 ks).map (zDX kvs)=some o from h)
   subst h2
   have:=zDE h1
   subst this
   cases r1 with
   |dt hr r =>
    generalize hk:ns.map D.int=kk at r2
    cases r2 with
    |tup hb rb =>
     subst hk
     have:=rb.vint
     subst this
     refine⟨_,_,rfl,.inr ⟨_,ns.map Sum.inl,_,s.rd hr,rfl,?_,rfl⟩,r.get ns⟩
     rw[List.map_map]
     exact s _ _ hb
    |@tupK a xs hb nb =>
     cases xs with
     |nil=>exact absurd rfl nb
     |cons x xs =>
      cases ns with
      |nil=>cases hk
      |cons n ns=>cases hk
  |_=>cases h
 |_=>cases h
end
noncomputable def inD(x y:D):Out D:=match y with
 |.lst ds=>match D.pys ds,x.py with
  |some ps,some p=>if p.depth<=60 then .ok (.bl (ps.any λd=>PyData.eqv d p)) else .bad
  |_,_=>.bad
 |.tup ds=>match D.pys ds,x.py with
  |some ps,some p=>if p.depth<=60 then .ok (.bl (ps.any λd=>PyData.eqv d p)) else .bad
  |_,_=>.bad
 |y=>match zJR y x with
  |some o=>.ok (.bl o.isSome)
  |none=>.bad
noncomputable def zB1(x y:D):Out D:=(inD x y).bind λd=>match d with|.bl b=>.ok (.bl (!b))|_=>.bad
section
variable{X:Cx}{K:PySem.W.Frag}{F H:Hp}{a b c e:Expr}{ga gb ge:G}{pos:Pos}
def zXT(neg:Bool):R2:=λx y H Q=>∃a o,y=.ref a/\zRR H a x o/\Q (.bl (if neg then !o.isSome else o.isSome)) H
theorem zJS(hu:X.A.units+64<cLine):OpR X (compareOp .In) (zXT false):=λpins s σ H x y v u Q I rx ry h=>by
 obtain⟨a,o,rfl,g,q⟩:=h
 cases ry
 exact yDS (by lia) I g rx λs3 I3=>⟨.bl _,H,I3,rfl,q⟩
theorem zJT(hu:X.A.units+64<cLine):OpR X (compareOp .NotIn) (zXT true):=λpins s σ H x y v u Q I rx ry h=>by
 obtain⟨a,o,rfl,g,q⟩:=h
 cases ry
 exact zU9 (by lia) I g rx λs3 I3=>⟨.bl _,H,I3,rfl,q⟩
theorem zPQ(neg:Bool){f:D->D->Out D}(hf:∀x y d,f x y=.ok d->∃b,inD x y=.ok (.bl b)/\d=.bl (if neg then !b else b)):OpS K (λx y H Q=>zXP K neg x y H Q\/zXT neg x y H Q) f:=λv u x y F H d Q s r1 r2 h k=>by
 obtain⟨b,hi,rfl⟩:=hf x y d h
 have seq:∀ds p (sq:SqL K H p ds\/SqT K H p ds) (xs:List D),Reps K F ds xs->u=.ref p->(match D.pys xs,x.py with
   |some ps,some p=>if p.depth<=60 then Out.ok (D.bl (ps.any λd=>PyData.eqv d p)) else .bad
   |_,_=>.bad)=.ok (.bl b)->zXP K neg v u H Q:=λds p sq xs rr eu hh=>by
  split at hh
  ·rename_i ps q e1 e2
   split at hh
   ·rename_i hd
    cases hh
    exact⟨p,ds,ps,q,eu,sq,rr.dv s _ e1,r1.dv s _ e2,hd,k _ F H (.refl s) (.bl _)⟩
   ·cases hh
  ·cases hh
 have dic:(match zJR y x with|some o=>Out.ok (D.bl o.isSome)|none=>.bad)=.ok (.bl b)->zXT neg v u H Q:=λhh=>by
  split at hh
  ·rename_i o eo
   cases hh
   obtain⟨a,ov,rfl,g,ro⟩:=Rep.dget s r2 r1 eo
   refine⟨a,ov,rfl,g,?_⟩
   rw[ro.isSome]
   exact k _ F H (.refl s) (.bl _)
  ·cases hh
 cases y with
 |lst ds =>
  obtain⟨p,vs,rfl,hr,rr⟩:=r2.isRefL
  exact .inl (seq vs p (.inl (hr.imp s.rd id)) ds rr rfl hi)
 |tup ds =>
  obtain⟨p,vs,rfl,rr,sq⟩:=r2.tupSq
  exact .inl (seq vs p (.inr (sq F H (.refl _) s)) ds rr rfl hi)
 |_=>exact .inr (dic hi)
theorem zT6{x y d:D}(h:inD x y=.ok d):∃b,d=.bl b:=by
 unfold inD at h
 split at h
 ·split at h
  ·split at h
   ·cases h;exact⟨_,rfl⟩
   ·cases h
  ·cases h
 ·split at h
  ·split at h
   ·cases h;exact⟨_,rfl⟩
   ·cases h
  ·cases h
 ·split at h
  ·cases h;exact⟨_,rfl⟩
  ·cases h
theorem zT7:OpS K (λx y H Q=>zXP K false x y H Q\/zXT false x y H Q) inD:=zPQ false λx y d h=>by
 obtain⟨b,rfl⟩:=zT6 h
 exact⟨b,h,rfl⟩
theorem zPR:OpS K (λx y H Q=>zXP K true x y H Q\/zXT true x y H Q) zB1:=zPQ true λx y d h=>by
 obtain⟨d',h1,h2⟩:=Out.bind_ok h
 obtain⟨b,rfl⟩:=zT6 h1
 cases h2
 exact⟨b,h1,rfl⟩
theorem yBT(hu:X.A.units+64<cLine)(ha:VE X a ga)(hb:VE X b gb)(hm:behindInMarks .In b=false:=by with_unfolding_all rfl):VT X (.Compare a [.In] [b] pos) (gB (g2 inD ga gb)):=zD6 ((zT1 hu).or (zJS hu)) zT7 ha hb hm
theorem yDX(hu:X.A.units+64<cLine)(ha:VE X a ga)(hb:VE X b gb)(hm:behindInMarks .In b=false:=by with_unfolding_all rfl):VE X (.Compare a [.In] [b] pos) (g2 inD ga gb):=yBQ ((zT1 hu).or (zJS hu)) zT7 ha hb hm
theorem zE9(hu:X.A.units+64<cLine)(ha:VE X a ga)(hb:VE X b gb)(hm:behindInMarks .NotIn b=false:=by with_unfolding_all rfl):VT X (.Compare a [.NotIn] [b] pos) (gB (g2 zB1 ga gb)):=zD6 ((zO5 hu).or (zJT hu)) zPR ha hb hm
noncomputable def zXU(x y:D):Out D:=match y with
 |.non=>match x with
  |.non=>.ok (.bl true)
  |_=>.ok (.bl false)
 |_=>.bad
noncomputable def zPS(x y:D):Out D:=match y with
 |.non=>match x with
  |.non=>.ok (.bl false)
  |_=>.ok (.bl true)
 |_=>.bad
theorem Rep.nonV{v:V}{x:D}(r:Rep K F v x):v=.non↔x=.non:=by
 constructor
 ·intro e;subst e;cases r;rfl
 ·intro e;subst e;cases r;rfl
theorem zZF{x y d:D}(h:zXU x y=.ok d):y=.non/\d=.bl (open Classical in decide (x=.non)):=by
 cases y with
 |non=>cases x<;>(injection h with h;exact⟨rfl,by rw[<-h];simp⟩)
 |_=>cases h
theorem zVU{x y d:D}(h:zPS x y=.ok d):y=.non/\d=.bl (!(open Classical in decide (x=.non))):=by
 cases y with
 |non=>cases x<;>(injection h with h;exact⟨rfl,by rw[<-h];simp⟩)
 |_=>cases h
theorem zVV:OpS K (λx y H Q=>y=.non/\Q (.bl (decide (x=.non))) H) zXU:=λv u x y F H d Q s r1 r2 hf k=>by
 have h:=zZF hf
 refine⟨r2.nonV.mpr h.1,k _ F H (.refl s) ?_⟩
 rw[h.2,decide_eq_decide.mpr r1.nonV];exact .bl _
theorem zSH:OpS K (λx y H Q=>y=.non/\Q (.bl (!decide (x=.non))) H) zPS:=λv u x y F H d Q s r1 r2 hf k=>by
 have h:=zVU hf
 refine⟨r2.nonV.mpr h.1,k _ F H (.refl s) ?_⟩
 rw[h.2,decide_eq_decide.mpr r1.nonV];exact .bl _
theorem zZG(ha:VE X a ga)(hb:VE X b gb)(hm:behindInMarks .Is b=false:=by with_unfolding_all rfl):VT X (.Compare a [.Is] [b] pos) (gB (g2 zXU ga gb)):=zD6 zYF zVV ha hb hm
theorem zVW(ha:VE X a ga)(hb:VE X b gb)(hm:behindInMarks .IsNot b=false:=by with_unfolding_all rfl):VT X (.Compare a [.IsNot] [b] pos) (gB (g2 zPS ga gb)):=zD6 zUZ zSH ha hb hm
noncomputable def ltD(x y:D):Out D:=match x,y with
 |.int i,.int j=>.ok (.bl (decide (i<j)))
 |.tup xs,.tup ys=>match zA9 xs,zA9 ys with
  |some ns,some ms=>.ok (.bl (HT.lexLt ns ms))
  |_,_=>.bad
 |_,_=>.bad
theorem Rep.intsT{v:V}{ds:List D}{ns:List Int}(s:Sub F H)(r:Rep K F v (.tup ds))(h:zA9 ds=some ns):∃a,v=.ref a/\SqT K H a (ns.map V.int):=by
 have:=zDE h
 subst this
 obtain⟨a,vs,rfl,rr,sq⟩:=r.tupSq
 have:=rr.vint
 subst this
 exact⟨a,rfl,sq F H (.refl _) s⟩
theorem zZH:OpS K (λx y H Q=>rI0 (λi j=>.bl (decide (i<j))) x y H Q\/yCO K x y H Q) ltD:=λv u x y F H d Q s r1 r2 hf k=>by
 unfold ltD at hf
 split at hf
 ·cases hf;(first|obtain rfl:=r1.vI|obtain rfl:=r1.vB|obtain rfl:=r1.vS|obtain rfl:=r1.vN|cases r1);(first|obtain rfl:=r2.vI|obtain rfl:=r2.vB|obtain rfl:=r2.vS|obtain rfl:=r2.vN|cases r2)
  exact .inl ⟨_,_,rfl,rfl,k _ F H (.refl s) (.bl _)⟩
 ·split at hf
  ·rename_i e1 e2
   cases hf
   obtain⟨a,rfl,h1⟩:=r1.intsT s e1
   obtain⟨b,rfl,h2⟩:=r2.intsT s e2
   exact .inr ⟨a,b,_,_,rfl,rfl,h1,h2,k _ F H (.refl s) (.bl _)⟩
  ·cases hf
 ·cases hf
noncomputable def zZI(p:Int->Int->Bool)(x y:D):Out D:=match x,y with
 |.int i,.int j=>.ok (.bl (p i j))
 |_,_=>.bad
theorem zLB(p:Int->Int->Bool):OpS K (rI0 λi j=>.bl (p i j)) (zZI p):=λv u x y F H d Q s r1 r2 hf k=>by
 unfold zZI at hf
 split at hf
 ·cases hf;(first|obtain rfl:=r1.vI|obtain rfl:=r1.vB|obtain rfl:=r1.vS|obtain rfl:=r1.vN|cases r1);(first|obtain rfl:=r2.vI|obtain rfl:=r2.vB|obtain rfl:=r2.vS|obtain rfl:=r2.vN|cases r2)
  exact⟨_,_,rfl,rfl,k _ F H (.refl s) (.bl _)⟩
 ·cases hf
noncomputable abbrev leD:=zZI λi j=>decide (i<=j)
noncomputable abbrev gtD:=zZI λi j=>decide (j<i)
noncomputable abbrev geD:=zZI λi j=>decide (j<=i)
theorem zVX(hu:X.A.units+64<cLine)(ha:VE X a ga)(hb:VE X b gb)(hm:behindInMarks .Lt b=false:=by with_unfolding_all rfl):VT X (.Compare a [.Lt] [b] pos) (gB (g2 ltD ga gb)):=zD6 (op_lt.or (zYN (by lia))) zZH ha hb hm
theorem yBU(ha:VE X a ga)(hb:VE X b gb)(hm:behindInMarks .LtE b=false:=by with_unfolding_all rfl):VT X (.Compare a [.LtE] [b] pos) (gB (g2 leD ga gb)):=zD6 yBC (zLB _) ha hb hm
theorem yBV(ha:VE X a ga)(hb:VE X b gb)(hm:behindInMarks .Gt b=false:=by with_unfolding_all rfl):VT X (.Compare a [.Gt] [b] pos) (gB (g2 gtD ga gb)):=zD6 yBD (zLB _) ha hb hm
theorem yBW(ha:VE X a ga)(hb:VE X b gb)(hm:behindInMarks .GtE b=false:=by with_unfolding_all rfl):VT X (.Compare a [.GtE] [b] pos) (gB (g2 geD ga gb)):=zD6 yBE (zLB _) ha hb hm
end
theorem zH1{h h':Heap}{it t:Addr}{i:Nat}(x:h.IsListIter it t i)(k:∀o,h.get? it=some o->h'.get? it=some o):h'.IsListIter it t i:=let ⟨o,e,r⟩:=x;⟨o,k o e,r⟩
theorem zH2{h h':Heap}{a t l:Addr}{i:Nat}(k:h.IsListIter t l i)(hs:Heap.SameBut a h h')(ne:t≠a):h'.IsListIter t l i:=zH1 k λo e=>hs.extBut _ _ ne e
theorem FpOk.offL{X:Cx}{pins:List (Addr×Obj)}{σ:St}{H:Hp}{s:Shared}{a:Addr}{fp:List Addr}{xs:List V}(I:Inv X pins σ H s)(hf:∀b∈fp,FpOk X pins H b)(h:SqL X.K H a xs):a∉fp:=λz=>by
 obtain⟨f0,f1,f2,f3,f4,f5⟩:=hf a z
 rcases h with h|⟨o,its,n,hk,_⟩
 ·rcases h with h|⟨o,h⟩
  ·rw[f0] at h;cases h
  ·rw[f0] at h;cases h
 ·have hb:=I.ok.mod.kin a o hk
  rcases f3 with f3|f3
  ·exact I.ok.noex a o hb f3
  ·exact absurd (Nat.lt_of_lt_of_le (Heap.lt_size hb) I.ok.bsz) (Nat.not_lt.mpr f3)
section
variable{prog:Program}{w:World}{A:Around}{E:Value->Shared->Prop}{s:Shared}
structure EnStL(h:Heap)(n l:Addr)(i:Nat):Prop where
 eo:∃f0 f1 old,zQ3 h n f0 f1 i old/\F0 f0
 k1:h.IsListIter n l i
theorem EnStL.keep{h h':Heap}{n l:Addr}{i:Nat}(z:EnStL h n l i)(k:∀b∈[n,n+1],∀o,h.get? b=some o->h'.get? b=some o):EnStL h' n l i:=by
 obtain⟨f0,f1,old,e,r⟩:=z.eo
 exact⟨⟨f0,f1,old,k _ (by simp) _ e,r⟩,zH1 z.k1 (k _ (by simp))⟩
theorem zSI{n l:Addr}{i:Nat}{xs:Array Value}{x:Value}{Q:Option Value->Shared->Prop}(z:EnStL s.heap n l i)(o1:l≠n)(o2:l≠n+1)(hl:s.heap.IsList l xs)(hx:xs[i]?=some x)
  (hQ:∀h' t,EnStL h' n l (i+1)->IsPair h' s.heap.objs.size (.int i t) x->h'.objs.size=s.heap.objs.size+1->(∀b o,b≠n->b≠n+1->s.heap.get? b=some o->h'.get? b=some o)->Q (some (.ref s.heap.objs.size)) { s with heap:=h',toks:=s.toks+1 }) :
  wpAny (model prog w) A (pyNext (.ref (n+1))) Q E s:=by
 obtain⟨f0,f1,old,he,hf⟩:=z.eo
 have k1:=z.k1
 have hT:s.TypeIs (.ref (n+1)) "enumerate":=⟨_,he,rfl⟩
 have d01:n≠n+1:=zO4 (by decide)
 unfold pyNext
 refine wpAny_bind (wpAny_attempt (wpAny_callSpecial?_slot (name:=Str.ofString "__next__") hT PySem.F.slot_enumerate_next (wpAny_call_entry PySem.F.slot_enumerate_next hT PySem.F.entry_enumerate_next ?_ (PySem.F.args_enumerate_next_1 _))))
 show wpAny _ _ (field (.ref (n+1)) 2 >>= _) _ _ _
 refine wpAny_bind (wpAny_field he rfl (x:=.ref n) rfl ?_)
 refine wpAny_bind (wpAny_nextOf_list_item k1 hl hx λh₁ k₁ s₁=>?_)
 have e₁:zQ3 h₁ n f0 f1 i old:=s₁.extBut _ _ d01.symm he
 show wpAny _ _ (field (.ref (n+1)) 3 >>= _) _ _ _
 refine wpAny_bind (wpAny_field e₁ rfl (x:=rawInt i) rfl ?_)
 show wpAny _ _ (field (.ref (n+1)) 4 >>= _) _ _ _
 refine wpAny_bind (wpAny_field e₁ rfl (x:=.none) rfl ?_)
 show wpAny _ _ (mkInt i >>= _) _ _ _
 refine wpAny_bind (wpAny_mkInt ?_)
 show wpAny _ _ (setField (.ref (n+1)) 3 (rawInt ((i:Int)+1)) >>= _) _ _ _
 refine wpAny_bind (wpAny_setField_rec e₁ (by simp) λh₂ e₂ s₂=>?_)
 replace e₂:zQ3 h₂ n f0 f1 ((i:Int)+1) old:=e₂
 replace s₂:Heap.SameBut (n+1) h₁ h₂:=s₂
 show wpAny _ _ (setField (.ref (n+1)) 4 .none >>= _) _ _ _
 refine wpAny_bind (wpAny_setField_rec e₂ (by simp) λh₃ e₃ s₃=>?_)
 replace e₃:zQ3 h₃ n f0 f1 ((i:Int)+1) old:=e₃
 replace s₃:Heap.SameBut (n+1) h₂ h₃:=s₃
 refine wpAny_bind (wpAny_newTuple (items:=[.int i s.toks,x]) ?_)
 have hsz:h₃.objs.size=s.heap.objs.size:=by rw[s₃.1,s₂.1,s₁.1]
 have e₄:zQ3 (h₃.push { cls:=.type "tuple",data:=.seq #[.int i s.toks,x] }) n f0 f1 ((i:Int)+1) old:=Heap.get?_push_of_some _ e₃
 have p₄:IsPair (h₃.push { cls:=.type "tuple",data:=.seq #[.int i s.toks,x] }) s.heap.objs.size (.int i s.toks) x:=by rw[<-hsz];exact Heap.get?_push_size _ rfl
 have z₄:(h₃.push { cls:=.type "tuple",data:=.seq #[.int i s.toks,x] }).objs.size=s.heap.objs.size+1:=by rw[Heap.size_push,hsz]
 have q₄:∀b o,b≠n->b≠n+1->s.heap.get? b=some o->(h₃.push { cls:=.type "tuple",data:=.seq #[.int i s.toks,x] }).get? b=some o:=λb o b1 b2 e=>Heap.get?_push_of_some _ (s₃.extBut b o b2 (s₂.extBut b o b2 (s₁.extBut b o b1 e)))
 have k₄:(h₃.push { cls:=.type "tuple",data:=.seq #[.int i s.toks,x] }).IsListIter n l (i+1):=zH1 (zH2 (zH2 k₁ s₂ d01) s₃ d01) λo e=>Heap.get?_push_of_some _ e
 show wpAny _ _ (Builtin.SmallTypes.ownedTupleIsFree (.ref (n+1)) >>= _) _ _ { s with heap:=h₃.push { cls:=.type "tuple",data:=.seq #[.int i s.toks,x] },toks:=s.toks+1 }
 have elt:n+1<s.heap.objs.size:=Heap.lt_size he
 rw[show(Value.ref h₃.objs.size)=Value.ref s.heap.objs.size by rw[hsz]]
 generalize h₃.push { cls:=.type "tuple",data:=.seq #[.int i s.toks,x] }=h₄ at e₄ p₄ z₄ q₄ k₄ ⊢
 refine wpAny_bind (zO7 (s:={ s with heap:=h₄,toks:=s.toks+1 }) e₄ hf λb h₅ g1 e₅ s₅=>?_)
 replace s₅:Heap.SameBut (n+1) h₄ h₅:=s₅
 have k₅:=zH2 k₄ s₅ d01
 have p₅:IsPair h₅ s.heap.objs.size (.int i s.toks) x:=s₅.extBut _ _ (Nat.ne_of_gt elt) p₄
 have q₅:∀b o,b≠n->b≠n+1->s.heap.get? b=some o->h₅.get? b=some o:=λb o b1 b2 e=>s₅.extBut b o b2 (q₄ b o b1 b2 e)
 cases b with
 |false =>
  simp only[Bool.false_eq_true,if_false]
  exact wpAny_pure ⟨_,rfl,wpAny_pure (hQ h₅ _ ⟨⟨_,_,_,e₅,hf⟩,k₅⟩ p₅ (s₅.1.trans z₄) q₅)⟩
 |true =>
  simp only[if_true]
  refine wpAny_bind (wpAny_rule ?_)
  refine wpAny_bind (wpAny_field e₅ rfl (x:=old) rfl ?_)
  refine wpAny_bind (wpAny_setField_rec e₅ (by simp) λh₆ e₆ s₆=>?_)
  replace e₆:zQ3 h₆ n f0 g1 ((i:Int)+1) x:=e₆
  replace s₆:Heap.SameBut (n+1) h₅ h₆:=s₆
  refine wpAny_bind ?_
  unfold Builtin.SmallTypes.ownedTupleHandOut
  refine wpAny_bind (wpAny_setField_rec e₆ (by simp) λh₇ e₇ s₇=>?_)
  replace e₇:zQ3 h₇ n (rawInt s.heap.objs.size) g1 ((i:Int)+1) x:=e₇
  replace s₇:Heap.SameBut (n+1) h₆ h₇:=s₇
  refine wpAny_setField_rec e₇ (by simp) λh₈ e₈ s₈=>?_
  replace e₈:zQ3 h₈ n (rawInt s.heap.objs.size) false ((i:Int)+1) x:=e₈
  replace s₈:Heap.SameBut (n+1) h₇ h₈:=s₈
  have up:∀b o,b≠n+1->h₅.get? b=some o->h₈.get? b=some o:=λb o hb e=>s₈.extBut b o hb (s₇.extBut b o hb (s₆.extBut b o hb e))
  exact wpAny_bind (wpAny_letGo (wpAny_pure ⟨_,rfl,wpAny_pure (hQ h₈ _ ⟨⟨_,_,_,e₈,.inr ⟨_,rfl⟩⟩,zH1 k₅ λo e=>up _ o d01 e⟩ (up _ _ (Nat.ne_of_gt elt) p₅) (s₈.1.trans (s₇.1.trans (s₆.1.trans (s₅.1.trans z₄)))) λb o b1 b2 e=>up b o b2 (q₅ b o b1 b2 e))⟩))
theorem zVY{n l:Addr}{i:Nat}{xs:Array Value}{Q:Option Value->Shared->Prop}(hh:A.handled=none)(z:EnStL s.heap n l i)(hl:s.heap.IsList l xs)(hx:xs[i]?=none)
  (hQ:∀h',(∀b o,b≠n->s.heap.get? b=some o->h'.get? b=some o)->Q none { s with heap:=h' }):wpAny (model prog w) A (pyNext (.ref (n+1))) Q E s:=by
 obtain⟨f0,f1,old,he,hf⟩:=z.eo
 have hT:s.TypeIs (.ref (n+1)) "enumerate":=⟨_,he,rfl⟩
 unfold pyNext
 refine wpAny_bind (wpAny_attempt (wpAny_callSpecial?_slot (name:=Str.ofString "__next__") hT PySem.F.slot_enumerate_next (wpAny_call_entry PySem.F.slot_enumerate_next hT PySem.F.entry_enumerate_next ?_ (PySem.F.args_enumerate_next_1 _))))
 show wpAny _ _ (field (.ref (n+1)) 2 >>= _) _ _ _
 refine wpAny_bind (wpAny_field he rfl (x:=.ref n) rfl ?_)
 refine wpAny_bind (wpAny_nextOf_list_end hh z.k1 hl hx λh' e hs he'=>?_)
 obtain⟨o,ho,hc⟩:=he'
 exact wpAny_bind (wpAny_isInstance (T:="StopIteration") (b:=true) ⟨o,ho,hc⟩ isSubtype_stop (wpAny_pure (hQ _ hs)))
theorem zZJ {n l : Addr} {i : Nat} {tg : Expr} {u : Value} {Q : Unit → Shared → Prop} (z : EnStL s.heap n l i) (h : ∀ h', EnStL h' n l i → Heap.SameBut (n + 1) s.heap h' → Q () { s with heap := h' }) :
    wpAny (model prog w) A (letOwnedTupleGo tg (.ref (n + 1)) u) Q E s := by
  have hz := h s.heap z (zHO _ _)
  obtain ⟨f0, f1, old, e, hf⟩ := id z.eo
  unfold letOwnedTupleGo
  cases tg <;> first
    | exact wpAny_pure hz
    | (cases u <;> first
        | exact wpAny_pure hz
        | (refine wpAny_bind (wpAny_load e ?_)
           dsimp only
           split
           · refine wpAny_bind (wpAny_rule ?_)
             show wpAny _ _ (setField (.ref (n + 1)) 0 .none) Q E s
             exact wpAny_setField_rec e (by simp) fun h' hz' hs' => h h' ⟨⟨.none, f1, old, hz', .inl rfl⟩, zH2 z.k1 hs' (zO4 (by decide))⟩ hs'
           · exact wpAny_pure hz))
theorem zMK{n l:Addr}{i:Nat}{Q:Value->Shared->Prop}(z:EnStL s.heap n l i)(h:Q (.ref (n+1)) s):wpAny (model prog w) A (pyIter (.ref (n+1))) Q E s:=by
 obtain⟨f0,f1,old,e,hf⟩:=z.eo
 have hT:s.TypeIs (.ref (n+1)) "enumerate":=⟨_,e,rfl⟩
 refine wpAny_pyIter_slot hT PySem.F.slot_enumerate_iter (wpAny_call_entry PySem.F.slot_enumerate_iter hT PySem.F.entry_enumerate_iter ?_ (PySem.F.args_enumerate_iter_1 _))
 show wpAny _ _ (ret (.ref (n+1))) _ _ s
 exact wpAny_pure ⟨_,rfl,"enumerate",_,hT,PySem.F.slot_enumerate_next.lookup,h⟩
noncomputable abbrev eL1(h:Heap)(l:Addr):Heap:=h.push { cls:=.type "list_iterator",data:=.fields #[.ref l,.int 0 0] }
noncomputable abbrev eL2(h:Heap)(l:Addr):Heap:=(eL1 h l).push { cls:=.type "enumerate",data:=.fields #[.none,.bool false,.ref h.objs.size,rawInt 0,.none,.none] }
theorem zNK(l:Addr)(xs:Array Value) :
  Meets (Builtin.«enumerate.__new__» ⟨[.type "enumerate",.ref l],[]⟩) (λ_ R s=>s.heap.IsList l xs/\R (.ok (.ret (.ref (eL1 s.heap l).objs.size))) { s with heap:=eL2 s.heap l }) :=
 .of_wp λprog w A R s h=>by
  obtain⟨hp,g,d,tk,os⟩:=s;obtain⟨hl,h⟩:=h
  have hsub:=sub_enumerate
  have hL:Heap.IsList (Shared.heap ⟨hp,g,d,tk,os⟩) l xs:=hl
  wp_walk
  refine wpAny_stack_any λst=>wpAny_pure ?_
  split
  ·rename_i c _ _ _ _ _
   cases(c==Value.type "enumerate")
   ·wp_walk using wpAny_pyIter_list hL
    exact⟨_,rfl,h⟩
   ·wp_walk using wpAny_pyIter_list hL
    exact⟨_,rfl,h⟩
  ·wp_walk using wpAny_pyIter_list hL
   exact⟨_,rfl,h⟩
theorem zPT{l:Addr}{xs:Array Value}{Q:Value->Shared->Prop}(hl:s.heap.IsList l xs)
  (h:∀h',EnStL h' s.heap.objs.size l 0->(∀b o,s.heap.get? b=some o->h'.get? b=some o)->Q (.ref (s.heap.objs.size+1)) { s with heap:=h' }) :
  wpAny (model prog w) A (call (.type "enumerate") [.ref l]) Q E s:=by
 refine callType_new PySem.F.called_enumerate (by decide) (PySem.F.typeCall_enumerate_1 _) (PySem.F.newCall_enumerate_1 _) (λobj=>PySem.F.args_object_init_2 obj _) PySem.F.entry_enumerate_new (zNK l xs) ⟨hl,?_⟩
 have z1:(eL1 s.heap l).objs.size=s.heap.objs.size+1:=Heap.size_push ..
 have g2:(eL2 s.heap l).get? (eL1 s.heap l).objs.size=some _:=Heap.get?_push_size _ rfl
 have g1:(eL2 s.heap l).get? s.heap.objs.size=some _:=Heap.get?_push_of_some _ (Heap.get?_push_size _ rfl)
 show _/\_
 rw[z1] at g2
 rw[z1]
 exact⟨⟨_,g2,rfl⟩,h _ ⟨⟨.none,false,.none,g2,.inl rfl⟩,⟨_,g1,rfl,rfl⟩⟩ λb o e=>Heap.get?_push_of_some _ (Heap.get?_push_of_some _ e)⟩
end
noncomputable def yC5(K:PySem.W.Frag)(a:Addr):It :=
 ⟨λi H=>∃xs x,SqL K H a xs/\xs[i]?=some x,λi H v H'=>∃p x,v=.ref p/\H p=none/\H'=upd H p (.tup [.int i,x])/\∀xs,SqL K H a xs->xs[i]?=some x,λi H=>∃xs,SqL K H a xs/\xs.length<=i⟩
theorem zNL{P:Program}{w:World}{K:PySem.W.Frag}{tg:Expr}(a n:Addr):Turn P w K tg (yC5 K a) [n,n+1] (n+1) (λi h=>EnStL h n a i) where
 mem:=by simp
 obj:=λi h st c hc=>by
  obtain⟨f0,f1,old,e,_⟩:=st.eo
  obtain⟨o0,e0,_,d0⟩:=st.k1
  simp only[List.mem_cons,List.not_mem_nil,or_false] at hc
  rcases hc with rfl|rfl
  ·exact⟨_,e0,λv z=>by rw[d0] at z;cases z⟩
  ·exact⟨_,e,λv z=>by have z':Data.fields _=Data.cell v:=z;cases z'⟩
 keep:=λi h h' st k=>st.keep k
 item:=by
  intro X hP hw hK hc i pins s σ H E I hf st hg
  subst hP hw hK
  obtain⟨xs,x,hq,hx⟩:=hg
  obtain⟨its,rv,p,hz⟩:=I.list hq
  obtain⟨u,hu,ru⟩:=rv.get hx
  have off:=FpOk.offL I hf hq
  simp only[List.mem_cons,List.not_mem_nil,or_false,not_or] at off
  refine zSI st off.1 off.2 (show s.heap.IsList a its.toArray from p.isList) (x:=u) (by simpa using hu) λh' t st' hp hsz hk=>?_
  refine⟨_,rfl,zZJ (s:={ s with heap:=h',toks:=s.toks+1 }) st' λh2 st2 hs2=>?_⟩
  obtain⟨f0,f1,old,e4,_⟩:=id st.eo
  have hlt:∀c∈[n,n+1],c<s.heap.objs.size:=λc hc=>lt2 hc (Heap.lt_size e4)
  have I1:Inv X pins σ (upd H s.heap.objs.size (.tup [.int i,x])) { s with heap:=s.heap.push { cls:=.type "tuple",data:=.seq #[.int i t,u] } } :=
   I.laid (t':=s.toks) (λb u e=>Heap.get?_push_of_some _ e) (Nat.le_refl _) ⟨by show 2<=sizeLine;decide,[.int i t,u],.cons ⟨t,rfl⟩ (.cons ru .nil),⟨_,Heap.get?_push_size _ rfl,rfl,rfl,0,rfl⟩⟩
  have hf1:∀c∈[n,n+1],FpOk X pins (upd H s.heap.objs.size (.tup [.int i,x])) c:=λc hc=>⟨by rw[zAE (Nat.ne_of_lt (hlt c hc))];exact(hf c hc).1,(hf c hc).2⟩
  have I2:Inv X pins σ (upd H s.heap.objs.size (.tup [.int i,x])) { s with heap:=h2,toks:=s.toks+1 }:=I1.turnedL (t':=s.toks+1) hf1 λc o hc e=>by
   simp only[List.mem_cons,List.not_mem_nil,or_false,not_or] at hc
   refine hs2.extBut _ _ hc.2 ?_
   by_cases hcs:c=s.heap.objs.size
   ·subst hcs
    rw[Heap.get?_push_size _ rfl] at e
    cases e
    exact hp
   ·have e':s.heap.get? c=some o:=by
     rw[Heap.get?_push_ne _ _ _ hcs] at e
     exact e
    exact hk c o hc.1 hc.2 e'
  exact⟨.ref s.heap.objs.size,_,I2,rfl,⟨_,x,rfl,I.fresh,rfl,λzs hz=>by rw[I.list_inj hz hq];exact hx⟩,st2,λc hc=>(hf1 c hc).1⟩
 done:=by
  intro X hP hw hK hc i pins s σ H E I hf st hg
  subst hP hw hK
  obtain⟨xs,hq,hx⟩:=hg
  obtain⟨its,rv,p,hz⟩:=I.list hq
  have hl:=rv.length
  refine zVY (I.ok.hd hc) st (show s.heap.IsList a its.toArray from p.isList) (by simp;lia) λh' hk=>⟨rfl,I.turnedL (t':=s.toks) hf λc o hc e=>?_⟩
  simp only[List.mem_cons,List.not_mem_nil,or_false,not_or] at hc
  exact hk c o hc.1 e
 self:=λ_ _ _ _ _ st h=>zMK st h
section
variable{X:Cx}{tg:Expr}
def zZK(K:PySem.W.Frag)(ta:TA):TI:=λσ H R=>ta σ H λvs H1=>∃a,vs=[.ref a]/\(∃xs,SqL K H1 a xs)/\R (yC5 K a) H1
theorem zSJ{a:Expr}{ta:TA}{p pos:Pos}(hg:Gl X "enumerate")(hm:X.mg "enumerate"=none)(ha:PA X [a] ta)(hs:starEach [a] X.env=[(false,eval a X.env)]:=by rfl):PI X tg (.Call (.Name "enumerate" p) [a] [] pos) (zZK X.K ta):=by
 intro pins s σ H R I h
 refine Call_ (zFG I hg hm (u:=.type "enumerate") (by decide +kernel) (PyProof.Rows.callWith_type1 (thn (ha pos pins s σ H _ I h) λus s1 ⟨vs,H1,I1,r1,q1⟩=>?_) hs rfl))
 obtain⟨c,e,⟨xs,hq1⟩,q⟩:=q1
 subst e
 cases r1 with
 |cons r rr =>
  cases rr
  (first|obtain rfl:=r.vI|obtain rfl:=r.vB|obtain rfl:=r.vS|obtain rfl:=r.vN|cases r)
  obtain⟨its1,rv1,p1,hz1⟩:=I1.list hq1
  refine zPT (show s1.heap.IsList c its1.toArray from p1.isList) λh' st k=>?_
  refine zMK (s:={ s1 with heap:=h' }) st ?_
  exact⟨s1.heap.objs.size+1,[s1.heap.objs.size,s1.heap.objs.size+1],_,_,H1,rfl,I1.kept (t':=s1.toks) k,zNL c _,st,λb hb=>I1.fpOk (ge2 hb) (I1.hok.fresh (ge2 hb)),q⟩
end
section
variable{X:Cx}{K:PySem.W.Frag}{H₀ F H:Hp}{a b c e:Expr}{es:List Expr}{ga gb gc ge:G}{gs:List G}{pos p:Pos}{x:Str}{id T:String}
def zZL(K:PySem.W.Frag):R2:=λx y H Q=>∃l b xs zs,x=.ref l/\y=.ref b/\SqL K H l xs/\SqL K H b zs/\xs.length+zs.length<=sizeLine/\∀p,H p=none->Q (.ref p) (upd H p (.lst (xs++zs)))
theorem op_catR:OpR X (binaryOp .Add) (zZL X.K):=by
 intro pins s σ H x y v u Q I rx ry h
 obtain⟨l,b,xs,zs,rfl,rfl,hH,hB,hz,q⟩:=h
 cases rx
 cases ry
 obtain⟨its,r,pl,z⟩:=I.list hH
 obtain⟨its2,r2,pl2,z2⟩:=I.list hB
 obtain⟨⟨oc,od,oda,osl⟩,n,e,e1,e2,e3⟩:=pl
 obtain⟨⟨oc',od',oda',osl'⟩,n',e',e1',e2',e3'⟩:=pl2
 dsimp only at e1 e2 e3 e1' e2' e3'
 subst e1 e2 e3 e1' e2' e3'
 have hl:=r.length
 have hl2:=r2.length
 refine concat_meets ⟨_,e,rfl⟩ ⟨_,e',rfl⟩ noFill_list_add seq_list_add F.slot_list_add F.entry_list_add (F.args_list_add_2 _ _) (list_addW l b its.toArray its2.toArray n n' none none osl osl' (by rw[List.size_toArray,List.size_toArray];lia)) ⟨e,e',?_⟩
 have ea:its.toArray++its2.toArray=(its++its2).toArray:=by simp
 rw[ea]
 exact⟨.ref _,_,I.lnew (t':=s.toks) (r.append r2) (by rw[List.length_append];lia),rfl,q _ I.fresh⟩
def zZM(K:PySem.W.Frag):R2:=λx y H Q=>∃a b xs ys,x=.ref a/\y=.ref b/\SqT K H a xs/\SqT K H b ys/\xs.length+ys.length<=sizeLine/\(xs=[]->Q (.ref b) H)/\(ys=[]->Q (.ref a) H)/\∀p,H p=none->Q (.ref p) (upd H p (.tup (xs++ys)))
theorem op_catX:OpR X (binaryOp .Add) (zZM X.K):=by
 intro pins s σ H x y v u Q I rx ry h
 obtain⟨a,b,xs,ys,rfl,rfl,ha,hb,hz,q1,q2,q3⟩:=h
 cases rx
 cases ry
 obtain⟨its,r1,p1,_⟩:=I.tuple ha
 obtain⟨its2,r2,p2,_⟩:=I.tuple hb
 refine zVK p1 p2 (λz=>⟨.ref b,H,I,rfl,q1 (r1.nil_iff.mp z)⟩) (λ_ z=>⟨.ref a,H,I,rfl,q2 (r2.nil_iff.mp z)⟩) (λ_ z=>?_) (by rw[<-r1.length,<-r2.length];exact hz)
 exact⟨.ref s.heap.objs.size,_,I.laid (t':=s.toks) (o:=.tup (xs++ys)) (λb ob q=>Heap.get?_push_of_some _ q) (Nat.le_refl _) ⟨by rw[List.length_append];exact hz,_,r1.append r2,IsTupP.new _ _⟩,rfl,q3 _ I.fresh⟩
theorem le4{n:Nat}(h:n<10000):n<=sizeLine:=Nat.le_of_lt (zDQ h)
noncomputable def zC1(x y:D):Out D:=match x,y with
 |.int i,.int j=>.ok (.int (i+j))
 |.lst xs,.lst ys=>few (xs.length+ys.length) (.ok (.lst (xs++ys)))
 |.tup xs,.tup ys=>few (xs.length+ys.length) (.ok (.tup (xs++ys)))
 |.str s,.str t=>few (s.length+t.length) (.ok (.str (s++t)))
 |_,_=>.bad
abbrev zZN(K:PySem.W.Frag):R2:=λx y H Q=>rI0 (λi j=>.int (i+j)) x y H Q\/zZL K x y H Q\/zZM K x y H Q\/(∃i j,x=.str i/\y=.str j/\i.length+j.length<=sizeLine/\Q (.str (i++j)) H)
theorem zVZ:OpR X (binaryOp .Add) (zZN X.K):=op_add.or (op_catR.or (op_catX.or zNA))
theorem zV0:OpS K (zZN K) zC1:=λv u x y F H d Q s r1 r2 hf k=>by
 unfold zC1 at hf
 split at hf
 ·cases hf;(first|obtain rfl:=r1.vI|obtain rfl:=r1.vB|obtain rfl:=r1.vS|obtain rfl:=r1.vN|cases r1);(first|obtain rfl:=r2.vI|obtain rfl:=r2.vB|obtain rfl:=r2.vS|obtain rfl:=r2.vN|cases r2)
  exact .inl ⟨_,_,rfl,rfl,k _ F H (.refl s) (.int _)⟩
 ·obtain⟨hl,hf⟩:=zCH hf
  cases hf
  obtain⟨a,vs,rfl,h1,h2⟩:=r1.isRefL
  obtain⟨b,ws,rfl,h3,h4⟩:=r2.isRefL
  refine .inr (.inl ⟨a,b,vs,ws,rfl,rfl,h1.imp s.rd id,h3.imp s.rd id,by rw[h2.length,h4.length];exact le4 hl,λq hq=>?_⟩)
  have n:=New.laid (o:=.lst (vs++ws)) s hq
  exact k _ _ _ n (.lst (.inl (.inl zAD)) ((h2.append h4).le n.1.le))
 ·obtain⟨hl,hf⟩:=zCH hf
  cases hf
  obtain⟨a,vs,rfl,h2,h1⟩:=r1.tupSq
  obtain⟨b,ws,rfl,h4,h3⟩:=r2.tupSq
  refine .inr (.inr (.inl ⟨a,b,vs,ws,rfl,rfl,h1 F H (.refl _) s,h3 F H (.refl _) s,by rw[h2.length,h4.length];exact le4 hl,λz=>?_,λz=>?_,λq hq=>?_⟩))
  ·have:=h2.nil_iff.mp z
   subst this
   exact k _ F H (.refl s) r2
  ·have:=h4.nil_iff.mp z
   subst this
   rw[List.append_nil] at k
   exact k _ F H (.refl s) r1
  ·have n:=New.laid (o:=.tup (vs++ws)) s hq
   exact k _ _ _ n (.tup zAD ((h2.append h4).le n.1.le))
 ·obtain⟨hl,hf⟩:=zCH hf
  cases hf;(first|obtain rfl:=r1.vI|obtain rfl:=r1.vB|obtain rfl:=r1.vS|obtain rfl:=r1.vN|cases r1);(first|obtain rfl:=r2.vI|obtain rfl:=r2.vB|obtain rfl:=r2.vS|obtain rfl:=r2.vN|cases r2)
  exact .inr (.inr (.inr ⟨_,_,rfl,rfl,le4 hl,k _ F H (.refl s) (.str _)⟩))
 ·cases hf
theorem zEA(ha:VE X a ga)(hb:VE X b gb):VE X (.BinOp a .Add b pos) (g2 zC1 ga gb):=zXS zVZ zV0 ha hb
noncomputable def zQ5(x y:D):Out D:=match x,y with
 |.int i,.int j=>.ok (.int (i-j))
 |_,_=>.bad
theorem zV1:OpS K (rI0 λi j=>.int (i-j)) zQ5:=λv u x y F H d Q s r1 r2 hf k=>by
 unfold zQ5 at hf
 split at hf
 ·cases hf;(first|obtain rfl:=r1.vI|obtain rfl:=r1.vB|obtain rfl:=r1.vS|obtain rfl:=r1.vN|cases r1);(first|obtain rfl:=r2.vI|obtain rfl:=r2.vB|obtain rfl:=r2.vS|obtain rfl:=r2.vN|cases r2)
  exact⟨_,_,rfl,rfl,k _ F H (.refl s) (.int _)⟩
 ·cases hf
theorem zSK(ha:VE X a ga)(hb:VE X b gb):VE X (.BinOp a .Sub b pos) (g2 zQ5 ga gb):=zXS zYA zV1 ha hb
noncomputable def guard{α:Type}(c:Prop)[Decidable c](y:Out α):Out α:=if c then y else .bad
theorem zB2{α:Type}{c:Prop}[Decidable c]{y:Out α}{z:α}(h:guard c y=.ok z):c/\y=.ok z:=by
 unfold guard at h
 split at h
 ·exact⟨by assumption,h⟩
 ·cases h
def zEG(i:Int):Prop:=-(2 ^ 64)<i/\i<2 ^ 64
instance (i:Int):Decidable (zEG i):=inferInstanceAs (Decidable (_/\_))
noncomputable def zLC(x y:D):Out D:=match x,y with
 |.int i,.int j=>guard (zEG i\/zEG j) (.ok (.int (i * j)))
 |_,_=>.bad
theorem zV2:OpS K (rI CMul λi j=>.int (i * j)) zLC:=λv u x y F H d Q s r1 r2 hf k=>by
 unfold zLC at hf
 split at hf
 ·obtain⟨hc,hf⟩:=zB2 hf
  cases hf;(first|obtain rfl:=r1.vI|obtain rfl:=r1.vB|obtain rfl:=r1.vS|obtain rfl:=r1.vN|cases r1);(first|obtain rfl:=r2.vI|obtain rfl:=r2.vB|obtain rfl:=r2.vS|obtain rfl:=r2.vN|cases r2)
  exact⟨_,_,rfl,rfl,hc,k _ F H (.refl s) (.int _)⟩
 ·cases hf
theorem zSL(ha:VE X a ga)(hb:VE X b gb):VE X (.BinOp a .Mult b pos) (g2 zLC ga gb):=zXS zYB zV2 ha hb
noncomputable def zLD(x y:D):Out D:=match x,y with
 |.int i,.int j=>guard (0<j/\j<1073741824) (.ok (.int (i / j)))
 |_,_=>.bad
theorem zSM:OpS K (rI yCK λi j=>.int (i / j)) zLD:=λv u x y F H d Q s r1 r2 hf k=>by
 unfold zLD at hf
 split at hf
 ·obtain⟨hc,hf⟩:=zB2 hf
  cases hf;(first|obtain rfl:=r1.vI|obtain rfl:=r1.vB|obtain rfl:=r1.vS|obtain rfl:=r1.vN|cases r1);(first|obtain rfl:=r2.vI|obtain rfl:=r2.vB|obtain rfl:=r2.vS|obtain rfl:=r2.vN|cases r2)
  exact⟨_,_,rfl,rfl,hc,k _ F H (.refl s) (.int _)⟩
 ·cases hf
theorem zT8(ha:VE X a ga)(hb:VE X b gb):VE X (.BinOp a .FloorDiv b pos) (g2 zLD ga gb):=zXS zUY zSM ha hb
noncomputable def zGW(x y:D):Out D:=match x,y with
 |.int i,.int j=>guard (0<j) (.ok (.int (i % j)))
 |_,_=>.bad
theorem zV3:OpS K (rI (λ_ j=>0<j) λi j=>.int (i % j)) zGW:=λv u x y F H d Q s r1 r2 hf k=>by
 unfold zGW at hf
 split at hf
 ·obtain⟨hc,hf⟩:=zB2 hf
  cases hf;(first|obtain rfl:=r1.vI|obtain rfl:=r1.vB|obtain rfl:=r1.vS|obtain rfl:=r1.vN|cases r1);(first|obtain rfl:=r2.vI|obtain rfl:=r2.vB|obtain rfl:=r2.vS|obtain rfl:=r2.vN|cases r2)
  exact⟨_,_,rfl,rfl,hc,k _ F H (.refl s) (.int _)⟩
 ·cases hf
theorem zJU(ha:VE X a ga)(hb:VE X b gb):VE X (.BinOp a .Mod b pos) (g2 zGW ga gb):=zXS zYC zV3 ha hb
noncomputable def zN2(x y:D):Out D:=match x,y with
 |.int i,.int j=>guard (0<=j/\j<=1000000/\i.natAbs<2 ^ 64) (.ok (.int (i ^ j.toNat)))
 |_,_=>.bad
theorem zV4:OpS K (rI yCL λi j=>.int (i ^ j.toNat)) zN2:=λv u x y F H d Q s r1 r2 hf k=>by
 unfold zN2 at hf
 split at hf
 ·obtain⟨hc,hf⟩:=zB2 hf
  cases hf;(first|obtain rfl:=r1.vI|obtain rfl:=r1.vB|obtain rfl:=r1.vS|obtain rfl:=r1.vN|cases r1);(first|obtain rfl:=r2.vI|obtain rfl:=r2.vB|obtain rfl:=r2.vS|obtain rfl:=r2.vN|cases r2)
  exact⟨_,_,rfl,rfl,hc,k _ F H (.refl s) (.int _)⟩
 ·cases hf
theorem zSN(ha:VE X a ga)(hb:VE X b gb):VE X (.BinOp a .Pow b pos) (g2 zN2 ga gb):=zXS zYD zV4 ha hb
noncomputable def zGB(x:D):Out D:=match x with
 |.int i=>.ok (.int (-i))
 |_=>.bad
theorem zV5:UnS K (rU λi=>.int (-i)) zGB:=λv x F H d Q s r hf k=>by
 unfold zGB at hf
 split at hf
 ·cases hf;(first|obtain rfl:=r.vI|obtain rfl:=r.vB|obtain rfl:=r.vS|obtain rfl:=r.vN|cases r)
  exact⟨_,rfl,k _ F H (.refl s) (.int _)⟩
 ·cases hf
theorem zPU(ha:VE X a ga):VE X (.UnaryOp .USub a pos) (g1 zGB ga):=yDV zYE zV5 ha
noncomputable def zN3(x y:D):Out D:=match x,y with
 |.lst xs,.int k=>guard (-(2 ^ 63)<=k/\k<2 ^ 63/\xs.length * k.toNat<10000) (.ok (.lst (List.replicate k.toNat xs).flatten))
 |_,_=>.bad
theorem zV6{es:List Expr}{gs:List G}{lpos:Pos}(ha:VA X es gs)(hb:VE X b gb):FE X (.BinOp (.List es lpos) .Mult b pos) (g2 zN3 (zBM gs) gb):=(zX9 zYR (zL5 ha) hb).imp λσ H Q h=>by
 obtain⟨τ,F,E,d,E',S,hg,k⟩:=h
 obtain⟨p,ea,hg⟩:=Out.bind_ok hg
 obtain⟨q,eb,hg⟩:=Out.bind_ok hg
 obtain⟨z,ef,hg⟩:=Out.bind_ok hg
 cases hg
 obtain⟨p0,ea0,eq⟩:=Out.bind_ok ea
 obtain⟨hl,eq⟩:=zCH eq
 cases eq
 refine⟨τ,F,E,p0.1,p0.2,S,ea0,λvs F1 H1 s1 S1 r1=>⟨by rw[r1.length];exact le4 hl,λl hl0=>?_⟩⟩
 have n:=New.laid (o:=.lst vs) S1.sub hl0
 have S2:=S1.new n
 refine⟨τ,_,p0.2,q.1,q.2,S2,eb,λu F3 H3 s3 S3 r3=>?_⟩
 unfold zN3 at ef
 split at ef
 ·rename_i xs kk e1 e2
  obtain⟨⟨g1,g2,g3⟩,ef⟩:=zB2 ef
  cases ef
  cases e1
  rw[e2] at r3
  (first|obtain rfl:=r3.vI|obtain rfl:=r3.vB|obtain rfl:=r3.vS|obtain rfl:=r3.vN|cases r3)
  have hv:=r1.length
  have rl:Rd F3 l (.lst vs):=s3.le.rd (.inl zAD)
  have hH:H3 l=some (.lst vs):=by
   rcases rl with z|⟨o,z⟩
   ·exact S3.sub _ _ z
   ·have:=s3.le l _ (zAD (H:=F1) (o:=.lst vs))
    rcases this with y|⟨y,_⟩|⟨_,_,_,y,_⟩
    ·rw[z] at y;cases y
    ·exact y.elim
    ·cases y
  refine⟨l,kk,vs,rfl,rfl,hH,g1,g2,by rw[hv];exact le4 g3,λq' hq=>?_⟩
  have n2:=New.junk (H':=upd H3 q' (.lst (List.replicate kk.toNat vs).flatten)) S3.sub (Gr.new hq)
  have st:=((s1.trans (n.stp (ow:=owA σ p0.2))).trans s3).trans (n2.stp (ow:=owA σ q.2))
  exact k q' _ _ st (S3.new n2) (Sim.notF S3.sub hq) (((s1.trans (n.stp (ow:=owA σ p0.2))).trans s3).dom q' hq) ⟨_,zAD,((r1.le n.1.le).le s3.le).rep kk.toNat⟩ (S3.fresh hq)
 ·cases ef
theorem Reps.atI{vs:List V}{ds:List D}{i:Int}{d:D}(r:Reps K F vs ds)(h:L2.atI ds i=some d):∃v,L2.atI vs i=some v/\Rep K F v d:=by
 unfold L2.atI at h ⊢
 rw[r.length]
 cases q:ixN ds.length i with
 |none=>rw[q] at h;cases h
 |some j =>
  rw[q] at h
  obtain⟨v,h1,h2⟩:=r.get (show ds[j]?=some d from h)
  exact⟨v,h1,h2⟩
noncomputable def ixD(x y:D):Out D:=match x,y with
 |.lst ds,.int i=>match L2.atI ds i with
  |some d=>.ok d
  |none=>.bad
 |.tup ds,.int i=>match L2.atI ds i with
  |some d=>.ok d
  |none=>.bad
 |.str z,.int i=>few z.length (match L2.atI z.cps.toList i with
  |some c=>.ok (.str ⟨#[c]⟩)
  |none=>.bad)
 |x,y=>match zJR x y with
  |some (some d)=>.ok d
  |_=>.bad
def zH3:R2:=λx y H Q=>∃a v,x=.ref a/\zRR H a y (some v)/\Q v H
theorem zPV(hu:X.A.units+64<cLine):IxR X zH3:=by
 intro value slice pins s σ H x y v u Q I rx ry h hs
 obtain⟨a,w,rfl,g,q⟩:=h
 cases rx
 refine tail_any (zKW I g) PySem.F.slot_dict_getitem.lookup (zOQ (A:=X.A) (by lia) I g ry λw' s3 I3 rw'=>⟨w,H,I3,rw',q⟩) hs
theorem zZO:OpS K (λx y H Q=>rIx K x y H Q\/zH3 x y H Q) ixD:=λv u x y F H d Q s r1 r2 hf k=>by
 have dic:(match zJR x y with|some (some d)=>Out.ok d|_=>.bad)=.ok d->zH3 v u H Q:=λhh=>by
  split at hh
  ·rename_i d' eo
   cases hh
   obtain⟨a,ov,rfl,g,ro⟩:=Rep.dget s r1 r2 eo
   obtain⟨w,rfl,rw'⟩:=ro.some_of
   exact⟨a,w,rfl,g,k _ F H (.refl s) rw'⟩
  ·cases hh
 unfold ixD at hf
 split at hf
 ·split at hf
  ·rename_i d' e
   cases hf
   obtain⟨a,vs,rfl,h1,h2⟩:=r1.isRefL
   obtain⟨w,h3,h4⟩:=h2.atI e
   (first|obtain rfl:=r2.vI|obtain rfl:=r2.vB|obtain rfl:=r2.vS|obtain rfl:=r2.vN|cases r2)
   exact .inl (.inl ⟨a,vs,_,w,rfl,rfl,h1.imp s.rd id,h3,k _ F H (.refl s) h4⟩)
  ·cases hf
 ·split at hf
  ·rename_i d' e
   cases hf
   obtain⟨a,vs,rfl,h2,h1⟩:=r1.tupSq
   obtain⟨w,h3,h4⟩:=h2.atI e
   (first|obtain rfl:=r2.vI|obtain rfl:=r2.vB|obtain rfl:=r2.vS|obtain rfl:=r2.vN|cases r2)
   exact .inl (.inr (.inl ⟨a,vs,_,w,rfl,rfl,h1 F H (.refl _) s,h3,k _ F H (.refl s) h4⟩))
  ·cases hf
 ·obtain⟨hl,hf⟩:=zCH hf
  split at hf
  ·rename_i c e
   cases hf
   (first|obtain rfl:=r1.vI|obtain rfl:=r1.vB|obtain rfl:=r1.vS|obtain rfl:=r1.vN|cases r1);(first|obtain rfl:=r2.vI|obtain rfl:=r2.vB|obtain rfl:=r2.vS|obtain rfl:=r2.vN|cases r2)
   exact .inl (.inr (.inr ⟨_,_,c,rfl,rfl,le4 hl,e,k _ F H (.refl s) (.str _)⟩))
  ·cases hf
 ·exact .inr (dic hf)
theorem zDB(hu:X.A.units+64<cLine)(ha:VE X a ga)(hb:VE X b gb)(hs:zOP b:=by intro _ _;rfl):VE X (.Subscript a b pos) (g2 ixD ga gb):=(zU5 (ix_seq.or (zPV hu)) ha hb hs).imp λ_ _ _ h=>zR7 zZO h
noncomputable def zKJ{α:Type}(xs:List α)(lo hi:Option Int):List α:=(xs.drop (HT.sIx xs.length 0 lo)).take (HT.sIx xs.length xs.length hi-HT.sIx xs.length 0 lo)
theorem Reps.cut{vs:List V}{ds:List D}(r:Reps K F vs ds)(lo hi:Option Int):Reps K F (zL7 vs lo hi) (zKJ ds lo hi):=by
 unfold zL7 zKJ
 rw[r.length]
 exact(r.drop _).take _
def yDY(K:PySem.W.Frag):V->Option Int->Option Int->Hp->VK->Prop:=λx lo hi H Q=>∃a xs,x=.ref a/\SqT K H a xs/\(zL7 xs lo hi=xs->Q (.ref a) H)/\∀p,H p=none->Q (.ref p) (upd H p (.tup (zL7 xs lo hi)))
theorem sl_tupX:SlR X (yDY X.K):=by
 intro pins s σ H x v vl vu lo hi sl Q I rx hs pl pu h
 obtain⟨a,xs,rfl,hx,q1,q2⟩:=h
 by_cases hw:HT.sIx xs.length 0 lo=0/\HT.sIx xs.length xs.length hi=xs.length
 ·cases rx
  obtain⟨its,r,ht,hz⟩:=I.tuple hx
  have hlen:its.toArray.size=xs.length:=by rw[List.size_toArray];exact r.length.symm
  refine⟨"tuple",_,PyProof.Rows.slot_tuple_getitem.lookup,ht.typeIs,?_⟩
  exact zDU ht hs pl pu (by rw[hlen];exact hw) ⟨.ref a,H,I,rfl,q1 (zO6 hw)⟩
 ·exact zYM pins s σ H (.ref a) v vl vu lo hi sl Q I rx hs pl pu ⟨a,xs,rfl,hx,hw,q2⟩
noncomputable def zV7:Option G->Ev->Out (Option Int×Ev)
 |none,E=>.ok (none,E)
 |some g,E=>(g E).bind λp=>match p.1 with|.int i=>.ok (some i,p.2)|_=>.bad
def tPt(K:PySem.W.Frag)(H₀:Hp)(g:Option G):TO:=λσ H Q=>∃τ F E o E',Sim K H₀ τ F H σ E/\zV7 g E=.ok (o,E')/\∀F' H',Stp (owA σ E) F H F' H' (owA σ E')->Sim K H₀ τ F' H' σ E'->Q o H'
theorem PO.imp{oe:Option Expr}{t t':TO}(h:PO X oe t)(hi:∀σ H Q,t' σ H Q->t σ H Q):PO X oe t':=λpins s σ H Q I q=>h pins s σ H Q I (hi σ H Q q)
abbrev VO(X:Cx)(oe:Option Expr)(g:Option G):Prop:=PO X oe (tPt X.K X.H₀ g)
theorem zV8:VO X none none:=po_none.imp λσ H Q h=>by
 obtain⟨τ,F,E,o,E',S,hg,k⟩:=h
 cases hg
 exact k F H .refl S
theorem zLE(h:VE X e ge):VO X (some e) (some ge):=(zU4 h).imp λσ H Q h=>by
 obtain⟨τ,F,E,o,E',S,hg,k⟩:=h
 obtain⟨p,ea,hg⟩:=Out.bind_ok hg
 refine⟨τ,F,E,p.1,p.2,S,ea,λv F1 H1 s1 S1 r1=>?_⟩
 split at hg
 ·rename_i i ei
  cases hg
  rw[ei] at r1
  (first|obtain rfl:=r1.vI|obtain rfl:=r1.vB|obtain rfl:=r1.vS|obtain rfl:=r1.vN|cases r1)
  exact⟨i,rfl,k F1 H1 s1 S1⟩
 ·cases hg
noncomputable def yC6(x:D)(lo hi:Option Int):Out D:=match x with
 |.tup ds=>.ok (.tup (zKJ ds lo hi))
 |.lst ds=>.ok (.lst (zKJ ds lo hi))
 |_=>.bad
noncomputable def zFP(g:G)(lo hi:Option G):G:=λE=>(g E).bind λp=>(zV7 lo p.2).bind λq=>(zV7 hi q.2).bind λr=>(yC6 p.1 q.1 r.1).bind λd=>.ok (d,r.2)
theorem zPW{lo hi:Option Expr}{gl gh:Option G}{p2:Pos}(he:VE X e ge)(hl:VO X lo gl)(hh:VO X hi gh):VE X (.Subscript e (.Slice lo hi none p2) pos) (zFP ge gl gh):=(zRL (sl_tupX.or zU6) he hl hh).imp λσ H Q h=>by
 obtain⟨τ,F,E,d,E',S,hg,k⟩:=h
 obtain⟨p,e1,hg⟩:=Out.bind_ok hg
 obtain⟨q,e2,hg⟩:=Out.bind_ok hg
 obtain⟨r,e3,hg⟩:=Out.bind_ok hg
 obtain⟨z,e4,hg⟩:=Out.bind_ok hg
 cases hg
 refine⟨τ,F,E,p.1,p.2,S,e1,λv F1 H1 s1 S1 r1=>⟨τ,F1,p.2,q.1,q.2,S1,e2,λF2 H2 s2 S2=>⟨τ,F2,q.2,r.1,r.2,S2,e3,λF3 H3 s3 S3=>?_⟩⟩⟩
 have r1':=(r1.le s2.le).le s3.le
 have st:=(s1.trans s2).trans s3
 unfold yC6 at e4
 split at e4
 ·rename_i ds ed
  cases e4
  rw[ed] at r1'
  obtain⟨a,vs,rfl,h2,h1⟩:=r1'.tupSq
  refine .inl ⟨a,vs,rfl,h1 F3 H3 (.refl _) S3.sub,λz=>k _ F3 H3 st S3 ?_,λq' hq=>?_⟩
  ·have:zKJ ds q.1 r.1=ds:=by
    have h5:=h2.cut q.1 r.1
    rw[z] at h5
    have h6:=h5.length
    have h7:=h2.length
    have h8:(zKJ ds q.1 r.1).Sublist ds:=(List.take_sublist _ _).trans (List.drop_sublist _ _)
    exact h8.eq_of_length (by lia)
   rw[this];exact r1'
  ·have n:=New.laid (o:=.tup (zL7 vs q.1 r.1)) S3.sub hq
   exact k _ _ _ (st.trans n.stp) (S3.new n) (.tup zAD ((h2.cut q.1 r.1).le n.1.le))
 ·rename_i ds ed
  cases e4
  rw[ed] at r1'
  obtain⟨a,vs,rfl,h1,h2⟩:=r1'.isRefL
  refine .inr ⟨a,vs,rfl,h1.imp S3.sub.rd id,λq' hq=>?_⟩
  have n:=New.laid (o:=.lst (zL7 vs q.1 r.1)) S3.sub hq
  exact k _ _ _ (st.trans n.stp) (S3.new n) (.lst (.inl (.inl zAD)) ((h2.cut q.1 r.1).le n.1.le))
 ·cases e4
noncomputable def gN(f:List D->Out D)(gs:List G):G:=λE=>(zBX gs E).bind λp=>(f p.1).bind λd=>.ok (d,p.2)
def zLF(K:PySem.W.Frag)(r:List V->Hp->VK->Prop)(f:List D->Out D):Prop:=∀vs xs F H d Q,Sub F H->Reps K F vs xs->f xs=.ok d->(∀z F' H',New F H F' H'->Rep K F' z d->Q z H')->r vs H Q
def zPX(K:PySem.W.Frag)(r:List V->Hp->VK->Prop)(f:List D->Out D):Prop:=∀vs xs F H d Q,Sub F H->Reps K F vs xs->f xs=.ok d->(∀a F' H',New F H F' H'->F' a=none->H a=none->OwnAt K F' H' a d->Q (.ref a) H')->r vs H Q
theorem zZP{r:List V->Hp->VK->Prop}{f:List D->Out D}(hs:zLF K r f){σ:St}{Q:VK}(h:tV K H₀ (gN f gs) σ H Q):tCB r (tAr K H₀ gs) σ H Q:=by
 obtain⟨τ,F,E,d,E',S,hg,k⟩:=h
 obtain⟨p,e1,hg⟩:=Out.bind_ok hg
 obtain⟨z,e2,hg⟩:=Out.bind_ok hg
 cases hg
 exact⟨τ,F,E,p.1,p.2,S,e1,λvs F1 H1 s1 S1 r1=>hs vs p.1 F1 H1 d Q S1.sub r1 e2 λz F2 H2 n r2=>k z F2 H2 (s1.trans n.stp) (S1.new n) r2⟩
theorem zZQ{r:List V->Hp->VK->Prop}{f:List D->Out D}(hs:zPX K r f){σ:St}{Q:VK}(h:tF K H₀ (gN f gs) σ H Q):tCB r (tAr K H₀ gs) σ H Q:=by
 obtain⟨τ,F,E,d,E',S,hg,k⟩:=h
 obtain⟨p,e1,hg⟩:=Out.bind_ok hg
 obtain⟨z,e2,hg⟩:=Out.bind_ok hg
 cases hg
 exact⟨τ,F,E,p.1,p.2,S,e1,λvs F1 H1 s1 S1 r1=>hs vs p.1 F1 H1 d Q S1.sub r1 e2 λa F2 H2 n h1 h2 h3=>k a F2 H2 (s1.trans n.stp) (S1.new n) h1 (s1.dom a h2) h3 (S1.fresh h2)⟩
theorem zV9{r:List V->Hp->VK->Prop}{f:List D->Out D}(hc:CallR X (.builtin id) r)(hs:zLF X.K r f)(hm:X.mg x=none)(hv:bootBuiltins x=some (.builtin id))(ha:VA X (e::es) gs)(hg:Gl X x:=by rfl)(hn:x≠"__name__":=by decide)(hdb:(x==("__debug__":Str))=false:=by decide)
  (he:starEach (e::es) X.env=(false,eval e X.env)::starEach es X.env:=by rfl) (hpl:(backTo pos (starEach es X.env)).any (·.1)=false:=by rfl):VE X (.Call (.Name x p) (e::es) [] pos) (gN f gs):=(zHC hc hg hm hv ha hn hdb he hpl).imp λ_ _ _ h=>zZP hs h
theorem yBX{r:List V->Hp->VK->Prop}{f:List D->Out D}(hc:CallR X (.builtin id) r)(hs:zPX X.K r f)(hm:X.mg x=none)(hv:bootBuiltins x=some (.builtin id))(ha:VA X (e::es) gs)(hg:Gl X x:=by rfl)(hn:x≠"__name__":=by decide)(hdb:(x==("__debug__":Str))=false:=by decide)
  (he:starEach (e::es) X.env=(false,eval e X.env)::starEach es X.env:=by rfl) (hpl:(backTo pos (starEach es X.env)).any (·.1)=false:=by rfl):FE X (.Call (.Name x p) (e::es) [] pos) (gN f gs):=(zHC hc hg hm hv ha hn hdb he hpl).imp λ_ _ _ h=>zZQ hs h
theorem yDZ{r:List V->Hp->VK->Prop}{f:List D->Out D}(hc:CallR X (.type T) r)(hs:zLF X.K r f)(hm:X.mg x=none)(hv:bootBuiltins x=some (.type T))(ha:VA X (e::es) gs)(hg:Gl X x:=by rfl)(hn:x≠"__name__":=by decide)(hdb:(x==("__debug__":Str))=false:=by decide)
  (he:starEach (e::es) X.env=(false,eval e X.env)::starEach es X.env:=by rfl) (hpl:(backTo pos (starEach es X.env)).any (·.1)=false:=by rfl):VE X (.Call (.Name x p) (e::es) [] pos) (gN f gs):=(zD3 hc hg hm hv ha hn hdb he hpl).imp λ_ _ _ h=>zZP hs h
theorem yD0{r:List V->Hp->VK->Prop}{f:List D->Out D}(hc:CallR X (.type T) r)(hs:zPX X.K r f)(hm:X.mg x=none)(hv:bootBuiltins x=some (.type T))(ha:VA X (e::es) gs)(hg:Gl X x:=by rfl)(hn:x≠"__name__":=by decide)(hdb:(x==("__debug__":Str))=false:=by decide)
  (he:starEach (e::es) X.env=(false,eval e X.env)::starEach es X.env:=by rfl) (hpl:(backTo pos (starEach es X.env)).any (·.1)=false:=by rfl):FE X (.Call (.Name x p) (e::es) [] pos) (gN f gs):=(zD3 hc hg hm hv ha hn hdb he hpl).imp λ_ _ _ h=>zZQ hs h
end
noncomputable def leI(a b:Int):Bool:=decide (a<=b)
noncomputable def zNM(ns:List Int):List Int:=ns.mergeSort leI
theorem zNN(ns:List Int):(zNM ns).Perm ns:=List.mergeSort_perm _ _
theorem zSO(ns:List Int):(zNM ns).Pairwise (·<=·):=by
 have:=List.pairwise_mergeSort (le:=leI) (λa b c h1 h2=>decide_eq_true (Int.le_trans (of_decide_eq_true h1) (of_decide_eq_true h2)))
  (λa b=>by unfold leI;rcases Int.le_total a b with h|h<;>simp[h]) ns
 exact this.imp λh=>of_decide_eq_true h
theorem zSP{ms ns:List Int}(p:ms.Perm ns)(h:ms.Pairwise (·<=·)):ms=zNM ns :=
 List.Perm.eq_of_pairwise (le:=λa b:Int=>decide (a<=b)=true) (λa b _ _ h1 h2=>Int.le_antisymm (of_decide_eq_true h1) (of_decide_eq_true h2)) (h.imp λh=>decide_eq_true h) ((zSO ns).imp λh=>decide_eq_true h) (p.trans (zNN ns).symm)
noncomputable def leP(a b:Int×Int):Bool:=!ltP b a
noncomputable def zEH(ps:List (Int×Int)):List (Int×Int):=ps.mergeSort leP
theorem zH4{a b:Int×Int}:leP a b=true↔a.1<b.1\/(a.1=b.1/\a.2<=b.2):=by
 unfold leP ltP
 simp only[Bool.not_eq_true',decide_eq_false_iff_not]
 lia
theorem zEI(ps:List (Int×Int)):(zEH ps).Perm ps:=List.mergeSort_perm _ _
theorem zML(ps:List (Int×Int)):(zEH ps).Pairwise (λa b=>leP a b=true) :=
 List.pairwise_mergeSort (λa b c h1 h2=>by rw[zH4] at *;lia) (λa b=>by
  have:leP a b=true\/leP b a=true:=by rw[zH4,zH4];lia
  simpa using this) ps
theorem zSQ{ms ns:List (Int×Int)}(p:ms.Perm ns)(h:ms.Pairwise (λa b=>leP a b=true)):ms=zEH ns :=
 List.Perm.eq_of_pairwise (le:=λa b=>leP a b=true) (λa b _ _ h1 h2=>by
  rw[zH4] at h1 h2
  exact Prod.ext (by lia) (by lia)) h (zML ns) (p.trans (zEI ns).symm)
noncomputable def zDF(p:Int×Int):D:=.tup [.int p.1,.int p.2]
noncomputable def zDG:List D->Option (List (Int×Int))
 |[]=>some []
 |.tup [.int a,.int b]::ds=>(zDG ds).map ((a,b)::·)
 |_::_=>none
theorem zNO:∀{ds:List D} {ps:List (Int×Int)},zDG ds=some ps->ds=ps.map zDF:=by
 intro ds
 induction ds with
 |nil=>intro ps h;rw[zDG] at h;cases h;rfl
 |cons d ds ih =>
  intro ps h
  unfold zDG at h
  split at h
  ·rename_i e;cases e
  ·rename_i a b r e
   cases e
   obtain⟨q,h1,h2⟩:=Option.map_eq_some_iff.mp h
   subst h2
   rw[ih h1];rfl
  ·cases h
theorem zC2:∀ps:List (Int×Int),zDG (ps.map zDF)=some ps
 |[]=>rfl
 |p::ps=>by
  show(zDG (ps.map zDF)).map (λr=>(p.1,p.2)::r)=_
  rw[zC2 ps];rfl
section
variable{X:Cx}{K:PySem.W.Frag}{H₀ F H:Hp}{a b c e tg:Expr}{es:List Expr}{ga gb gc ge:G}{gs:List G}{pos p:Pos}{x:Str}
theorem Reps.perm{zs ys:List V}(pm:zs.Perm ys):∀{ds:List D},Reps K F ys ds->∃es,es.Perm ds/\Reps K F zs es:=by
 induction pm with
 |nil=>intro ds r;(first|obtain rfl:=r.vI|obtain rfl:=r.vB|obtain rfl:=r.vS|obtain rfl:=r.vN|cases r);exact⟨[],List.Perm.refl _,.nil⟩
 |cons a _ ih =>
  intro ds r
  cases r with
  |cons h t =>
   obtain⟨qs,q,r'⟩:=ih t
   exact⟨_::qs,q.cons _,.cons h r'⟩
 |swap a b l =>
  intro ds r
  cases r with
  |cons h t =>
   cases t with
   |cons h' t'=>exact⟨_::_::_,List.Perm.swap _ _ _,.cons h' (.cons h t')⟩
 |trans _ _ ih1 ih2 =>
  intro ds r
  obtain⟨qs,q,r'⟩:=ih2 r
  obtain⟨us,q',r''⟩:=ih1 r'
  exact⟨us,q'.trans q,r''⟩
theorem zSR{α β:Type}{f:α->β}:∀{l1 l2:List β} (p:l1.Perm l2) (ns:List α),l2=ns.map f->∃ms:List α,l1=ms.map f/\ms.Perm ns:=by
 intro l1 l2 p
 induction p with
 |nil=>intro ns e;cases ns with|nil=>exact⟨[],rfl,List.Perm.refl _⟩|cons _ _=>cases e
 |cons a _ ih =>
  intro ns e
  cases ns with
  |nil=>cases e
  |cons n ns =>
   injection e with e1 e2
   obtain⟨ms,h1,h2⟩:=ih ns e2
   exact⟨n::ms,by rw[List.map_cons,e1,h1],h2.cons n⟩
 |swap a b l =>
  intro ns e
  match ns,e with
  |c::d::ns,e =>
   injection e with e1 e2
   injection e2 with e2 e3
   exact⟨d::c::ns,by rw[List.map_cons,List.map_cons,e1,e2,e3],List.Perm.swap _ _ _⟩
 |trans _ _ ih1 ih2 =>
  intro ns e
  obtain⟨ms,h1,h2⟩:=ih2 ns e
  obtain⟨ks,h3,h4⟩:=ih1 ms h1
  exact⟨ks,h3,h4.trans h2⟩
theorem Reps.prs(s:Sub F H):∀{ps:List (Int×Int)} {ys:List V},Reps K F ys (ps.map zDF)->Prs H ys ps
 |[],_,.nil=>.nil
 |p::ps,_,.cons h r=>by
  refine .cons ?_ (Reps.prs s r)
  have h:Rep K F _ (.tup [.int p.1,.int p.2]):=h
  generalize hk:[D.int p.1,.int p.2]=kk at h
  cases h with
  |tup hb rb =>
   subst hk
   cases rb with
   |cons h1 rb =>
    cases rb with
    |cons h2 rb =>
     (first|obtain rfl:=rb.vI|obtain rfl:=rb.vB|obtain rfl:=rb.vS|obtain rfl:=rb.vN|cases rb);cases h1;cases h2
     exact⟨_,rfl,s _ _ hb⟩
  |@tupK a xs hb nb =>
   cases xs with
   |nil=>cases hk
   |cons x xs=>cases hk
theorem zPY(s:Sub F H):∀{ps qs:List (Int×Int)} {ys:List V},Prs H ys ps->Prs H ys qs->ps=qs
 |_,_,_,.nil,.nil=>rfl
 |_,_,_,.cons ⟨a,e1,h1⟩ t1,.cons ⟨b,e2,h2⟩ t2=>by
  rw[e1] at e2;cases e2
  rw[h1] at h2
  simp only[Option.some.injEq,HO.tup.injEq,List.cons.injEq,V.int.injEq,and_true] at h2
  rw[zPY s t1 t2,Prod.ext h2.1 h2.2]
noncomputable def zLG:List D->Out D
 |[.lst ds]=>match zA9 ds with
  |some ns=>.ok (.lst ((zNM ns).map D.int))
  |none=>match zDG ds with
   |some ps=>.ok (.lst ((zEH ps).map zDF))
   |none=>.bad
 |_=>.bad
abbrev zWA(K:PySem.W.Frag):List V->Hp->VK->Prop:=λxs H Q=>(∃(l:Addr) (ns:List Int),xs=[.ref l]/\SqL K H l (ns.map V.int)/\∀(ms:List Int) (q:Addr),ms.Perm ns->ms.Pairwise (·<=·)->H q=none->Q (.ref q) (upd H q (.lst (ms.map V.int)))) \/
 (∃(l:Addr) (ys:List V) (ps:List (Int×Int)),xs=[.ref l]/\SqL K H l ys/\Prs H ys ps/\∀(zs:List V) (qs:List (Int×Int)) (q:Addr),zs.Perm ys->Prs H zs qs->qs.Perm ps->(qs.Pairwise λa b=>ltP b a=false)->H q=none->Q (.ref q) (upd H q (.lst zs)))
theorem zPZ:zPX K (zWA K) zLG:=λvs xs F H d Q s r hf k=>by
 unfold zLG at hf
 split at hf
 ·rename_i ds
  cases r with
  |cons r rr =>
   cases rr
   obtain⟨l,ys,rfl,h1,h2⟩:=r.isRefL
   split at hf
   ·rename_i ns en
    cases hf
    have:=zDE en
    subst this
    have:=h2.vint
    subst this
    refine .inl ⟨l,ns,rfl,h1.imp s.rd id,λms q pm pw hq=>?_⟩
    rw[zSP pm pw]
    have n:=New.junk (H':=upd H q (.lst ((zNM ns).map V.int))) s (Gr.new hq)
    exact k q F _ n (Sim.notF s hq) hq ⟨_,zAD,Reps.ints _⟩
   ·split at hf
    ·rename_i ps ep
     cases hf
     have:=zNO ep
     subst this
     refine .inr ⟨l,ys,ps,rfl,h1.imp s.rd id,h2.prs s,λzs qs q pz hqs pq pw hq=>?_⟩
     obtain⟨es,pe,re⟩:=Reps.perm pz h2
     obtain⟨qs',rfl,pq'⟩:=zSR pe ps rfl
     have:=zPY s (re.prs s) hqs
     subst this
     have:qs'=zEH ps:=zSQ pq (pw.imp λh=>by unfold leP;rw[h];rfl)
     subst this
     have n:=New.junk (H':=upd H q (.lst zs)) s (Gr.new hq)
     exact k q F _ n (Sim.notF s hq) hq ⟨_,zAD,re⟩
    ·cases hf
 ·cases hf
theorem zSS(hm:X.mg "sorted"=none)(ha:VA X (e::es) gs)(hg:Gl X "sorted":=by rfl)(he:starEach (e::es) X.env=(false,eval e X.env)::starEach es X.env:=by rfl)(hpl:(backTo pos (starEach es X.env)).any (·.1)=false:=by rfl) :
  FE X (.Call (.Name "sorted" p) (e::es) [] pos) (gN zLG gs):=yBX (call_sortedIO.or zHS) zPZ hm (by decide +kernel) ha hg (by decide) (by decide) he hpl
theorem zNP:CallR X (.builtin "len") (λxs H Q=>∃a kvs,xs=[V.ref a]/\Rd H a (.dT kvs)/\Q (.int kvs.length) H):=by
 intro pins s σ H xs us Q I r h
 obtain⟨a,kvs,rfl,ha,q⟩:=h
 obtain⟨u,rfl,ru⟩:=zEW r
 cases ru
 obtain⟨es,ep,rw',e1,e2,_⟩:=zGP (ha.ok I.hok)
 have:=zEN
 refine zVJ rw' (by rw[sizeLine_eq] at e2;lia) λt tk=>⟨.int kvs.length,H,I.tok tk,⟨t,by rw[e1]⟩,q⟩
theorem call_lenKR:CallR X (.builtin "len") (λxs H Q=>∃a kvs,xs=[V.ref a]/\Rd H a (.dK kvs)/\Q (.int kvs.length) H):=by
 intro pins s σ H xs us Q I r h
 obtain⟨a,kvs,rfl,ha,q⟩:=h
 obtain⟨u,rfl,ru⟩:=zEW r
 cases ru
 exact yBK I ha λt s' I'=>⟨.int kvs.length,H,I',⟨t,rfl⟩,q⟩
noncomputable def zE3:List D->Out D
 |[.lst ds]=>.ok (.int ds.length)
 |[.tup ds]=>.ok (.int ds.length)
 |[.str z]=>few z.length (.ok (.int z.length))
 |[.dk kvs]=>.ok (.int kvs.length)
 |[.dt kvs]=>.ok (.int kvs.length)
 |_=>.bad
abbrev yBY(K:PySem.W.Frag):List V->Hp->VK->Prop:=λxs H Q=>(∃p ys,xs=[.ref p]/\(SqL K H p ys\/SqT K H p ys)/\Q (.int ys.length) H)\/(∃z,xs=[.str z]/\z.length<=sizeLine/\Q (.int z.length) H) \/
 (∃a kvs,xs=[V.ref a]/\Rd H a (.dK kvs)/\Q (.int kvs.length) H)\/(∃a kvs,xs=[V.ref a]/\Rd H a (.dT kvs)/\Q (.int kvs.length) H)
theorem zZR:zLF K (yBY K) zE3:=λvs xs F H d Q s r hf k=>by
 unfold zE3 at hf
 split at hf
 ·cases hf
  cases r with
  |cons r rr =>
   cases rr
   obtain⟨l,ys,rfl,h1,h2⟩:=r.isRefL
   exact .inl ⟨l,ys,rfl,.inl (h1.imp s.rd id),by rw[h2.length];exact k _ F H (.refl s) (.int _)⟩
 ·cases hf
  cases r with
  |cons r rr =>
   cases rr
   obtain⟨l,ys,rfl,h2,h1⟩:=r.tupSq
   exact .inl ⟨l,ys,rfl,.inr (h1 F H (.refl _) s),by rw[h2.length];exact k _ F H (.refl s) (.int _)⟩
 ·obtain⟨hl,hf⟩:=zCH hf
  cases hf
  cases r with
  |cons r rr =>
   cases rr;(first|obtain rfl:=r.vI|obtain rfl:=r.vB|obtain rfl:=r.vS|obtain rfl:=r.vN|cases r)
   exact .inr (.inl ⟨_,rfl,le4 hl,k _ F H (.refl s) (.int _)⟩)
 ·cases hf
  cases r with
  |cons r rr =>
   cases rr
   cases r with
   |dk h1 h2=>exact .inr (.inr (.inl ⟨_,_,rfl,s.rd h1,by rw[h2.length];exact k _ F H (.refl s) (.int _)⟩))
 ·cases hf
  cases r with
  |cons r rr =>
   cases rr
   cases r with
   |dt h1 h2=>exact .inr (.inr (.inr ⟨_,_,rfl,s.rd h1,by rw[h2.length];exact k _ F H (.refl s) (.int _)⟩))
 ·cases hf
theorem zLH(hm:X.mg "len"=none)(ha:VA X (e::es) gs)(hg:Gl X "len":=by rfl)(he:starEach (e::es) X.env=(false,eval e X.env)::starEach es X.env:=by rfl)(hpl:(backTo pos (starEach es X.env)).any (·.1)=false:=by rfl) :
  VE X (.Call (.Name "len" p) (e::es) [] pos) (gN zE3 gs):=zV9 (call_len_seq.or (call_len_str.or (call_lenKR.or zNP))) zZR hm (by decide +kernel) ha hg (by decide) (by decide) he hpl
def zT9:List V->Hp->VK->Prop:=λxs H Q=>∃(d:Addr) (kvs:List (Key×V)),xs=[.ref d]/\Rd H d (.dK kvs)/\∀q,H q=none->Q (.ref q) (upd H q (.lst (kvs.map λkv=>kV kv.1)))
theorem zJV:∀(ks:List Key) (us:List Value),us.length=ks.length->(∀(i:Nat) v,us[i]?=some v->∃k,ks[i]?=some k/\RelV (kV k) v)->Vals (ks.map kV) us
 |[],[],_,_=>.nil
 |k::ks,u::us,hl,h=>by
  obtain⟨n,e1,e2⟩:=h 0 u rfl
  have e3:k=n:=by simpa using e1
  subst e3
  exact .cons e2 (zJV ks us (by simpa using hl) λi v hv=>h (i+1) v (by simpa using hv))
 |[],_::_,hl,_=>by simp at hl
 |_::_,[],hl,_=>by simp at hl
theorem zNQ(hc:X.calm=true):CallR X (.type "list") zT9:=by
 intro pins s σ H xs us Q I r h
 obtain⟨d,kvs,rfl,hd,q⟩:=h
 obtain⟨u,rfl,ru⟩:=zEW r
 cases ru
 obtain⟨z,lo,vs,rel,dd⟩:=zHJ I.hok hd
 obtain⟨ep,da⟩:=dd.dictAt
 have hl0:kvs.length=vs.length:=rel.length
 refine PySem.W.kdl_call (PySem.W.kdl_dict (knd:=zA1 X.prog X.w) (kvs:=vs) (ep:=ep) lo) (I.ok.hd hc) da (by lia) λh' tk acc c' hk hS hI=>?_
 obtain⟨hz,hi⟩:=hI
 have rv:Vals (kvs.map λkv=>kV kv.1) acc.toList:=by
  have:=zJV (kvs.map (·.1)) acc.toList (by simp;lia) λi v hv=>by
   obtain⟨k,xx,e1,e2⟩:=hi i v (by rw[<-Array.getElem?_toList];exact hv)
   refine⟨k,by rw[rel.keys,List.getElem?_map,e1];rfl,?_⟩
   rw[zGH] at e2
   rcases zAU e2 with⟨j,t,z1,z2⟩|⟨y,t,z1,z2⟩
   ·rw[z1,z2];exact⟨t,rfl⟩
   ·rw[z1,z2];exact⟨t,rfl⟩
  rw[List.map_map] at this
  exact this
 refine⟨.ref s.heap.objs.size,_,I.laid (o:=.lst (kvs.map λkv=>kV kv.1)) hk (Nat.le_refl _) ⟨?_,acc.toList,c',rv,by simpa using hS⟩,rfl,q _ I.fresh⟩
 rw[List.length_map];exact z
noncomputable def zUA:Key->D
 |.inl i=>.int i
 |.inr x=>.str x
theorem zP0(k:Key):Rep K F (kV k) (zUA k):=by
 cases k with
 |inl i=>exact .int i
 |inr x=>exact .str x
theorem RepK.keys:∀{vs:List (Key×V)} {ds:List (Key×D)},RepK K F vs ds->Reps K F (vs.map λkv=>kV kv.1) (ds.map λkv=>zUA kv.1)
 |_,_,.nil=>.nil
 |_,_,.cons (k:=k) _ r=>.cons (zP0 k) (RepK.keys r)
noncomputable def zJW:List D->Out D
 |[.lst ds]=>.ok (.lst ds)
 |[.tup ds]=>.ok (.lst ds)
 |[.dk kvs]=>.ok (.lst (kvs.map λkv=>zUA kv.1))
 |_=>.bad
abbrev zZS(K:PySem.W.Frag):List V->Hp->VK->Prop:=λxs H Q=>(∃p ys,xs=[.ref p]/\(SqL K H p ys\/SqT K H p ys)/\∀l,H l=none->Q (.ref l) (upd H l (.lst ys)))\/zT9 xs H Q
theorem zWB:zPX K (zZS K) zJW:=λvs xs F H d Q s r hf k=>by
 unfold zJW at hf
 split at hf
 ·cases hf
  cases r with
  |cons r rr =>
   cases rr
   obtain⟨l,ys,rfl,h1,h2⟩:=r.isRefL
   exact .inl ⟨l,ys,rfl,.inl (h1.imp s.rd id),λq hq=>k q F _ (New.junk s (Gr.new hq)) (Sim.notF s hq) hq ⟨_,zAD,h2⟩⟩
 ·cases hf
  cases r with
  |cons r rr =>
   cases rr
   obtain⟨l,ys,rfl,h2,h1⟩:=r.tupSq
   exact .inl ⟨l,ys,rfl,.inr (h1 F H (.refl _) s),λq hq=>k q F _ (New.junk s (Gr.new hq)) (Sim.notF s hq) hq ⟨_,zAD,h2⟩⟩
 ·cases hf
  cases r with
  |cons r rr =>
   cases rr
   cases r with
   |dk h1 h2=>exact .inr ⟨_,_,rfl,s.rd h1,λq hq=>k q F _ (New.junk s (Gr.new hq)) (Sim.notF s hq) hq ⟨_,zAD,h2.keys⟩⟩
 ·cases hf
theorem zMM(hc:X.calm=true)(hm:X.mg "list"=none)(ha:VA X (e::es) gs)(hg:Gl X "list":=by rfl)(he:starEach (e::es) X.env=(false,eval e X.env)::starEach es X.env:=by rfl)(hpl:(backTo pos (starEach es X.env)).any (·.1)=false:=by rfl) :
  FE X (.Call (.Name "list" p) (e::es) [] pos) (gN zJW gs):=yD0 (call_list_of.or (zNQ hc)) zWB hm (by decide +kernel) ha hg (by decide) (by decide) he hpl
noncomputable def zMN:List D->Out D
 |[.lst ds]=>.ok (.tup ds)
 |[.tup ds]=>.ok (.tup ds)
 |_=>.bad
theorem zZT:zLF K (λxs H Q=>∃p ys,xs=[.ref p]/\((SqL K H p ys/\∀l,H l=none->Q (.ref l) (upd H l (.tup ys)))\/(SqT K H p ys/\Q (.ref p) H))) zMN:=λvs xs F H d Q s r hf k=>by
 unfold zMN at hf
 split at hf
 ·cases hf
  cases r with
  |cons r rr =>
   cases rr
   obtain⟨l,ys,rfl,h1,h2⟩:=r.isRefL
   refine⟨l,ys,rfl,.inl ⟨h1.imp s.rd id,λq hq=>?_⟩⟩
   have n:=New.laid (o:=.tup ys) s hq
   exact k _ _ _ n (.tup zAD (h2.le n.1.le))
 ·cases hf
  cases r with
  |cons r rr =>
   cases rr
   obtain⟨l,ys,rfl,h2,h1⟩:=r.tupSq
   exact⟨l,ys,rfl,.inr ⟨h1 F H (.refl _) s,k _ F H (.refl s) r⟩⟩
 ·cases hf
theorem zDY(hm:X.mg "tuple"=none)(ha:VA X (e::es) gs)(hg:Gl X "tuple":=by rfl)(he:starEach (e::es) X.env=(false,eval e X.env)::starEach es X.env:=by rfl)(hpl:(backTo pos (starEach es X.env)).any (·.1)=false:=by rfl) :
  VE X (.Call (.Name "tuple" p) (e::es) [] pos) (gN zMN gs):=yDZ zHG zZT hm (by decide +kernel) ha hg (by decide) (by decide) he hpl
noncomputable def zH5:List D->Out D
 |[.int i,.int j]=>.ok (.int (if j<i then j else i))
 |_=>.bad
noncomputable def zP1:List D->Out D
 |[.int i,.int j]=>.ok (.int (if j>i then j else i))
 |_=>.bad
theorem zWC:zLF K (λxs H Q=>∃i j,xs=[.int i,.int j]/\Q (.int (if j<i then j else i)) H) zH5:=λvs xs F H d Q s r hf k=>by
 unfold zH5 at hf
 split at hf
 ·cases hf
  cases r with
  |cons r rr=>cases rr with
   |cons r' rr=>cases rr;(first|obtain rfl:=r.vI|obtain rfl:=r.vB|obtain rfl:=r.vS|obtain rfl:=r.vN|cases r);(first|obtain rfl:=r'.vI|obtain rfl:=r'.vB|obtain rfl:=r'.vS|obtain rfl:=r'.vN|cases r');exact⟨_,_,rfl,k _ F H (.refl s) (.int _)⟩
 ·cases hf
theorem zWD:zLF K (λxs H Q=>∃i j,xs=[.int i,.int j]/\Q (.int (if j>i then j else i)) H) zP1:=λvs xs F H d Q s r hf k=>by
 unfold zP1 at hf
 split at hf
 ·cases hf
  cases r with
  |cons r rr=>cases rr with
   |cons r' rr=>cases rr;(first|obtain rfl:=r.vI|obtain rfl:=r.vB|obtain rfl:=r.vS|obtain rfl:=r.vN|cases r);(first|obtain rfl:=r'.vI|obtain rfl:=r'.vB|obtain rfl:=r'.vS|obtain rfl:=r'.vN|cases r');exact⟨_,_,rfl,k _ F H (.refl s) (.int _)⟩
 ·cases hf
theorem zUB(hc:X.calm=true)(hm:X.mg "min"=none)(ha:VA X (e::es) gs)(hg:Gl X "min":=by rfl)(he:starEach (e::es) X.env=(false,eval e X.env)::starEach es X.env:=by rfl)(hpl:(backTo pos (starEach es X.env)).any (·.1)=false:=by rfl) :
  VE X (.Call (.Name "min" p) (e::es) [] pos) (gN zH5 gs):=zV9 (zOH hc) zWC hm (by decide +kernel) ha hg (by decide) (by decide) he hpl
theorem zZU(hc:X.calm=true)(hm:X.mg "max"=none)(ha:VA X (e::es) gs)(hg:Gl X "max":=by rfl)(he:starEach (e::es) X.env=(false,eval e X.env)::starEach es X.env:=by rfl)(hpl:(backTo pos (starEach es X.env)).any (·.1)=false:=by rfl) :
  VE X (.Call (.Name "max" p) (e::es) [] pos) (gN zP1 gs):=zV9 (zOG hc) zWD hm (by decide +kernel) ha hg (by decide) (by decide) he hpl
end
section
variable{X:Cx}{K:PySem.W.Frag}{H₀ F H:Hp}{τ:Addr}{σ:St}{E:Ev}{a b c e tg:Expr}{es:List Expr}{ga gb gc ge:G}{gs:List G}{pos p:Pos}{x:Str}
theorem Sim.setO{i:Nat}{t:Bool}{d d':D}{ad:Addr}{o:HO}(S:Sim K H₀ τ F H σ E)(e:E[i]?=some (.own t d))(ea:σ[i]?=some (some (.ref ad)))(h:OwnAt K F (upd H ad o) ad d') :
  Sim K H₀ τ F (upd H ad o) σ (E.set i (.own t d'))/\Stp (owA σ E) F H F (upd H ad o) (owA σ (E.set i (.own t d'))):=by
 obtain⟨a',a1,a2,a3,a4,a5⟩:=S.own i t d e
 rw[ea] at a1;cases a1
 have hi:i<E.length:=(List.getElem?_eq_some_iff.mp e).1
 have ow:owA σ E ad:=⟨i,t,d,e,ea⟩
 have old:∀(j:Nat) t' x,(E.set i (.own t d'))[j]?=some (.own t' x)->(j=i/\t'=t/\x=d')\/(j≠i/\E[j]?=some (.own t' x)):=λj t' x z=>by
  by_cases hj:i=j
  ·subst hj;rw[List.getElem?_set_self hi] at z;cases z;exact .inl ⟨rfl,rfl,rfl⟩
  ·rw[List.getElem?_set_ne hj] at z;exact .inr ⟨Ne.symm hj,z⟩
 have inE:∀(j:Nat) t' x,(E.set i (.own t d'))[j]?=some (.own t' x)->∃t'' x',E[j]?=some (.own t'' x'):=λj t' x z=>by
  rcases old j t' x z with⟨rfl,_,_⟩|⟨_,z⟩
  ·exact⟨_,_,e⟩
  ·exact⟨_,_,z⟩
 refine⟨⟨λb u z=>?_,by rw[List.length_set];exact S.len,λj x z=>?_,λj t' x z=>?_,λj l t1 t2 x y b z1 z2=>?_⟩,⟨λb u z _ n ho=>?_,λb z=>?_,.refl _,λb u z=>.inl (by rw[z];exact nofun),λb ⟨j,t',x,z1,z2⟩=>?_⟩⟩
 ·have:b≠ad:=λy=>by rw[y,a2] at z;cases z
  rw[zAE this];exact S.sub b u z
 ·by_cases hj:i=j
  ·subst hj;rw[List.getElem?_set_self hi] at z;cases z
  ·rw[List.getElem?_set_ne hj] at z;exact S.val j x z
 ·rcases old j t' x z with⟨rfl,rfl,rfl⟩|⟨hj,z⟩
  ·exact⟨ad,ea,a2,h,a4,a5⟩
  ·obtain⟨c,c1,c2,c3,c4⟩:=S.own j t' x z
   have hc:c≠ad:=λy=>hj (S.inj j i t' t x d ad z e (by rw[c1,y]) ea)
   exact⟨c,c1,c2,c3.mono (.refl _) (zAE hc),c4⟩
 ·obtain⟨_,_,w1⟩:=inE j _ _ z1
  obtain⟨_,_,w2⟩:=inE l _ _ z2
  exact S.inj j l _ _ _ _ b w1 w2
 ·rw[zAE (λy=>ho (by rw[y];exact ow))];exact z
 ·by_cases hb:b=ad
  ·rw[hb,zAD] at z;cases z
  ·rw[zAE hb] at z;exact z
 ·obtain⟨t'',x',w⟩:=inE j t' x z1
  exact .inl ⟨j,t'',x',w,z2⟩
def yAW(K:PySem.W.Frag)(r:V->List V->Hp->VK->Prop)(f:List D->List D->Out (D×List D)):Prop:=∀(F H:Hp) (l:Addr) vs ds args xs d ds' Q,Sub F H->H l=some (.lst vs)->Reps K F vs ds->Reps K F args xs->f ds xs=.ok (d,ds') ->
 (∀y vs',Rep K F y d->Reps K F vs' ds'->Q y (upd H l (.lst vs')))->r (.ref l) args H Q
noncomputable def zB3(i:Nat)(f:List D->List D->Out (D×List D))(gs:List G):G:=λE=>match E[i]? with
 |some (.own _ (.lst _))=>(zBX gs E).bind λp=>match p.2[i]? with
  |some (.own t (.lst ds))=>(f ds p.1).bind λq=>.ok (q.1,p.2.set i (.own t (.lst q.2)))
  |_=>.bad
 |_=>.bad
theorem zWE{i:Nat}{r:V->List V->Hp->VK->Prop}{f:List D->List D->Out (D×List D)}(hs:yAW K r f){Q:VK}(h:tV K H₀ (zB3 i f gs) σ H Q) :
  ∃v,σ[i]?=some (some v)/\tyV K "list" v H/\tAr K H₀ gs σ H λxs H2=>r v xs H2 Q:=by
 obtain⟨τ,F,E,d,E',S,hg,k⟩:=h
 unfold zB3 at hg
 split at hg
 ·rename_i t0 ds0 e0
  obtain⟨p,e1,hg⟩:=Out.bind_ok hg
  split at hg
  ·rename_i t ds e2
   obtain⟨q,e3,hg⟩:=Out.bind_ok hg
   cases hg
   obtain⟨ad,a1,a2,⟨vs0,a3,_⟩,_⟩:=S.own i _ _ e0
   refine⟨_,a1,.inl ⟨rfl,vs0,SqL.of a3⟩,τ,F,E,p.1,p.2,S,e1,λargs F1 H1 s1 S1 r1=>?_⟩
   obtain⟨ad',b1,b2,⟨vs,b3,b4⟩,_⟩:=S1.own i _ _ e2
   rw[a1] at b1;cases b1
   refine hs F1 H1 ad vs ds args p.1 q.1 q.2 Q S1.sub b3 b4 r1 e3 λy vs' ry rvs=>?_
   obtain⟨S2,s2⟩:=S1.setO (o:=.lst vs') (d':=.lst q.2) e2 a1 ⟨vs',zAD,rvs⟩
   exact k y F1 _ (s1.trans s2) S2 ry
  ·cases hg
 ·cases hg
variable{apos cpos:Pos}{xn:Str}{q:Pos}
noncomputable def zIQ(ds xs:List D):Out (D×List D):=match xs with
 |[d]=>few ds.length (.ok (.non,ds++[d]))
 |_=>.bad
theorem zP2:yAW K zKU zIQ:=λF H l vs ds args xs d ds' Q s h r ra hf k=>by
 unfold zIQ at hf
 split at hf
 ·obtain⟨hl,hf⟩:=zCH hf
  cases hf
  cases ra with
  |cons r1 rr =>
   cases rr
   exact⟨l,vs,_,rfl,rfl,h,by rw[r.length];exact zDQ hl,k _ _ .non (r.append (.cons r1 .nil))⟩
 ·cases hf
noncomputable def zQ6(ds xs:List D):Out (D×List D):=match xs with
 |[]=>match ds[ds.length-1]? with
  |some d=>.ok (d,ds.dropLast)
  |none=>.bad
 |_=>.bad
theorem Reps.dropLast{vs:List V}{ds:List D}(r:Reps K F vs ds):Reps K F vs.dropLast ds.dropLast:=by
 rw[List.dropLast_eq_take,List.dropLast_eq_take,r.length]
 exact r.take _
theorem zZV:yAW K yCS zQ6:=λF H l vs ds args xs d ds' Q s h r ra hf k=>by
 unfold zQ6 at hf
 split at hf
 ·split at hf
  ·rename_i d' e
   cases hf
   (first|obtain rfl:=ra.vI|obtain rfl:=ra.vB|obtain rfl:=ra.vS|obtain rfl:=ra.vN|cases ra)
   obtain⟨v,h1,h2⟩:=r.get e
   exact⟨l,vs,v,rfl,rfl,h,by rw[r.length];exact h1,k _ _ h2 r.dropLast⟩
  ·cases hf
 ·cases hf
noncomputable def zEQ(ds xs:List D):Out (D×List D):=match xs with
 |[.int i]=>guard (0<=i/\i<ds.length/\ds.length<10000) (match ds[i.toNat]? with
  |some d=>.ok (d,ds.eraseIdx i.toNat)
  |none=>.bad)
 |_=>.bad
theorem zST:yAW K zTX zEQ:=λF H l vs ds args xs d ds' Q s h r ra hf k=>by
 unfold zEQ at hf
 split at hf
 ·rename_i i
  obtain⟨⟨g1,g2,g3⟩,hf⟩:=zB2 hf
  split at hf
  ·rename_i d' e
   cases hf
   cases ra with
   |cons r1 rr =>
    cases rr;(first|obtain rfl:=r1.vI|obtain rfl:=r1.vB|obtain rfl:=r1.vS|obtain rfl:=r1.vN|cases r1)
    obtain⟨v,h1,h2⟩:=r.get e
    exact⟨l,vs,i,i.toNat,v,rfl,rfl,h,by omega,by omega,by rw[r.length];exact seqIndex_of g1 g2,h1,k _ _ h2 (r.eraseIdx _)⟩
  ·cases hf
 ·cases hf
theorem zFA(i:Nat)(ha:VA X [e] gs)(hN:X.N[i]?=some xn:=by rfl)(hv:Vis X.env.scope xn:=by first|exact Or.inl rfl|exact Or.inr (Or.inl rfl)|exact Or.inr (Or.inr rfl))(hd:(xn==("__debug__":Str))=false:=by decide)(hcd:(xn==("__classdict__":Str))=false:=by decide)
  (hbase:attributeBase (.Name xn q) "append" X.env (eval (.Name xn q) X.env)=eval (.Name xn q) X.env:=by rfl)
  (hfew:((backTo cpos (starEach [e] X.env)).all (λx=>!x.1)&&(backToKw cpos (keywordEach [] X.env)).all (λx=>x.1.isSome)
   && decide ([e].length+([]:List Keyword).length+(if([]:List Keyword).isEmpty then 0 else 1)<30))=true:=by rfl)
  (hline:(apos.endLine==cpos.line)=true:=by rfl) (hs:starEach [e] X.env=(false,eval e X.env)::starEach [] X.env:=by rfl) (hplain:(backTo cpos (starEach [] X.env)).any (·.1)=false:=by rfl) :
  VE X (.Call (.Attribute (.Name xn q) "append" apos) [e] [] cpos) (zB3 i zIQ gs) :=
 (zRO PySem.F.plainAttrs_list PySem.F.slot_list_append PySem.F.type_list_append zD4 (zFF hN hv hd hcd) ha hbase hfew hline hs hplain).imp λσ H Q h=>zWE zP2 h
theorem zWF(i:Nat)(ha:VA X [e] gs)(hN:X.N[i]?=some xn:=by rfl)(hv:Vis X.env.scope xn:=by first|exact Or.inl rfl|exact Or.inr (Or.inl rfl)|exact Or.inr (Or.inr rfl))(hd:(xn==("__debug__":Str))=false:=by decide)(hcd:(xn==("__classdict__":Str))=false:=by decide)
  (hbase:attributeBase (.Name xn q) "pop" X.env (eval (.Name xn q) X.env)=eval (.Name xn q) X.env:=by rfl)
  (hfew:((backTo cpos (starEach [e] X.env)).all (λx=>!x.1)&&(backToKw cpos (keywordEach [] X.env)).all (λx=>x.1.isSome)
   && decide ([e].length+([]:List Keyword).length+(if([]:List Keyword).isEmpty then 0 else 1)<30))=true:=by rfl)
  (hline:(apos.endLine==cpos.line)=true:=by rfl) (hs:starEach [e] X.env=(false,eval e X.env)::starEach [] X.env:=by rfl) (hplain:(backTo cpos (starEach [] X.env)).any (·.1)=false:=by rfl) :
  VE X (.Call (.Attribute (.Name xn q) "pop" apos) [e] [] cpos) (zB3 i zEQ gs) :=
 (zRO PySem.F.plainAttrs_list PySem.F.slot_list_pop PySem.F.type_list_pop zRQ (zFF hN hv hd hcd) ha hbase hfew hline hs hplain).imp λσ H Q h=>zWE zST h
theorem yBZ(i:Nat)(hN:X.N[i]?=some xn:=by rfl)(hv:Vis X.env.scope xn:=by first|exact Or.inl rfl|exact Or.inr (Or.inl rfl)|exact Or.inr (Or.inr rfl))(hd:(xn==("__debug__":Str))=false:=by decide)(hcd:(xn==("__classdict__":Str))=false:=by decide)
  (hbase:attributeBase (.Name xn q) "pop" X.env (eval (.Name xn q) X.env)=eval (.Name xn q) X.env:=by rfl) (hline:(apos.endLine==cpos.line)=true:=by rfl) :
  VE X (.Call (.Attribute (.Name xn q) "pop" apos) [] [] cpos) (zB3 i zQ6 []) :=
 (zYP PySem.F.plainAttrs_list PySem.F.slot_list_pop PySem.F.type_list_pop zYQ (zFF hN hv hd hcd) hbase hline).imp λσ H Q h=>by
  obtain⟨v,h1,h2,τ,F,E,ds,E',S,hg,k⟩:=zWE zZV h
  cases hg
  exact⟨v,h1,h2,k [] F H .refl S .nil⟩
theorem RepK.put(k:Key){v:V}{d:D}{vs:List (Key×V)}{ds:List (Key×D)}(r:RepK K F vs ds)(h:Rep K F v d):RepK K F (zEX vs k v) (zEE ds k d):=by
 have any:∀{vs:List (Key×V)} {ds:List (Key×D)},RepK K F vs ds->(vs.any λkv=>decide (kv.1=k))=(ds.any λkv=>decide (kv.1=k)):=by
  intro vs ds r
  induction vs generalizing ds with
  |nil=>(first|obtain rfl:=r.vI|obtain rfl:=r.vB|obtain rfl:=r.vS|obtain rfl:=r.vN|cases r);rfl
  |cons x xs ih=>cases r with|cons h r=>rw[List.any_cons,List.any_cons,ih r]
 have mp:∀{vs:List (Key×V)} {ds:List (Key×D)},RepK K F vs ds->RepK K F (vs.map λkv=>if kv.1=k then(kv.1,v) else kv) (ds.map λkv=>if kv.1=k then(kv.1,d) else kv):=by
  intro vs ds r
  induction vs generalizing ds with
  |nil=>(first|obtain rfl:=r.vI|obtain rfl:=r.vB|obtain rfl:=r.vS|obtain rfl:=r.vN|cases r);exact .nil
  |cons x xs ih =>
   cases r with
   |@cons k' v' d' _ _ h' r =>
    rw[List.map_cons,List.map_cons]
    by_cases e:k'=k
    ·simp only[e,if_true];exact .cons h (ih r)
    ·simp only[e,if_false];exact .cons h' (ih r)
 have ap:∀{vs:List (Key×V)} {ds:List (Key×D)},RepK K F vs ds->RepK K F (vs++[(k,v)]) (ds++[(k,d)]):=by
  intro vs ds r
  induction vs generalizing ds with
  |nil=>(first|obtain rfl:=r.vI|obtain rfl:=r.vB|obtain rfl:=r.vS|obtain rfl:=r.vN|cases r);exact .cons h .nil
  |cons x xs ih=>cases r with|cons h' r=>exact .cons h' (ih r)
 unfold zEX zEE
 rw[any r]
 split
 ·exact mp r
 ·exact ap r
theorem RepT.put(k:List Int){v:V}{d:D}{vs:List (List Key×V)}{ds:List (List Int×D)}(r:RepT K F vs ds)(h:Rep K F v d):RepT K F (zEX vs (k.map Sum.inl) v) (zEE ds k d):=by
 have dec:∀k':List Int,decide (k'.map (Sum.inl:Int->Key)=k.map Sum.inl)=decide (k'=k):=λk'=>by
  by_cases e:k'=k
  ·simp[e]
  ·have e':¬k'.map (Sum.inl:Int->Key)=k.map Sum.inl:=λz=>e (zH0 z)
   simp[e,e']
 have any:∀{vs:List (List Key×V)} {ds:List (List Int×D)},RepT K F vs ds->(vs.any λkv=>decide (kv.1=k.map Sum.inl))=(ds.any λkv=>decide (kv.1=k)):=by
  intro vs ds r
  induction vs generalizing ds with
  |nil=>(first|obtain rfl:=r.vI|obtain rfl:=r.vB|obtain rfl:=r.vS|obtain rfl:=r.vN|cases r);rfl
  |cons x xs ih=>cases r with|@cons k' _ _ _ _ h r=>rw[List.any_cons,List.any_cons,ih r];show(decide _||_)=(decide _||_);rw[dec k']
 have mp:∀{vs:List (List Key×V)} {ds:List (List Int×D)},RepT K F vs ds->RepT K F (vs.map λkv=>if kv.1=k.map Sum.inl then(kv.1,v) else kv) (ds.map λkv=>if kv.1=k then(kv.1,d) else kv):=by
  intro vs ds r
  induction vs generalizing ds with
  |nil=>(first|obtain rfl:=r.vI|obtain rfl:=r.vB|obtain rfl:=r.vS|obtain rfl:=r.vN|cases r);exact .nil
  |cons x xs ih =>
   cases r with
   |@cons k' v' d' _ _ h' r =>
    rw[List.map_cons,List.map_cons]
    by_cases e:k'=k
    ·simp only[e,if_true];exact .cons h (ih r)
    ·have e':¬k'.map (Sum.inl:Int->Key)=k.map Sum.inl:=λz=>e (zH0 z)
     simp only[e,e',if_false];exact .cons h' (ih r)
 have ap:∀{vs:List (List Key×V)} {ds:List (List Int×D)},RepT K F vs ds->RepT K F (vs++[(k.map Sum.inl,v)]) (ds++[(k,d)]):=by
  intro vs ds r
  induction vs generalizing ds with
  |nil=>(first|obtain rfl:=r.vI|obtain rfl:=r.vB|obtain rfl:=r.vS|obtain rfl:=r.vN|cases r);exact .cons h .nil
  |cons x xs ih=>cases r with|cons h' r=>exact .cons h' (ih r)
 unfold zEX zEE
 rw[any r]
 split
 ·exact mp r
 ·exact ap r
noncomputable def zWG(x k v:D):Out D:=match x,k with
 |.lst ds,.int i=>match ixN ds.length i with
  |some j=>.ok (.lst (ds.set j v))
  |none=>.bad
 |.dk kvs,k=>match zHZ k with
  |some k=>few kvs.length (.ok (.dk (zEE kvs k v)))
  |none=>.bad
 |.dt kvs,.tup ks=>match zA9 ks with
  |some ns=>few kvs.length (.ok (.dt (zEE kvs ns v)))
  |none=>.bad
 |_,_=>.bad
noncomputable def zAO(i:Nat)(gk gv:G):GS:=λE=>match E[i]? with
 |some (.own _ _)=>(gv E).bind λv=>(gk v.2).bind λk=>match k.2[i]? with
  |some (.own t d)=>(zWG d k.1 v.1).bind λd'=>.ok (.nx (k.2.set i (.own t d')))
  |_=>.bad
 |_=>.bad
theorem zAY{gk gv:G}{kx value:Expr}{spos tpos:Pos}(i:Nat)(hu:X.A.units+64<cLine)(hk:VE X kx gk)(hvv:VE X value gv)
  (hN:X.N[i]?=some xn:=by rfl) (hv:Vis X.env.scope xn:=by first|exact Or.inl rfl|exact Or.inr (Or.inl rfl)|exact Or.inr (Or.inr rfl)) (hd:(xn==("__debug__":Str))=false:=by decide) (hcd:(xn==("__classdict__":Str))=false:=by decide)
  (hs:swapsWith value (some (.Subscript (.Name xn q) kx tpos)) spos.line X.env=pure false:=by rfl)
  (hs1:swapsWithSole [.Subscript (.Name xn q) kx tpos] value spos.line X.env=pure false:=by rfl) (hw:swappedStores [.Subscript (.Name xn q) kx tpos] value X.env=pure none:=by rfl)
  (h1:(assignEach [.Subscript (.Name xn q) kx tpos] X.env).map (·.2)=[assign (.Subscript (.Name xn q) kx tpos) X.env]:=by rfl)
  (ha:∀v,assign (.Subscript (.Name xn q) kx tpos) X.env v=(do
   let ov <-holding [v] (eval (.Name xn q) X.env)
   let iv <-holding [v,ov] (eval kx X.env)
   standAt tpos
   holding [v,ov,iv] (setItem ov iv v)
   release [v,ov,iv] []):=by intro _;rfl):VS X (.Assign [.Subscript (.Name xn q) kx tpos] value spos) (zAO i gk gv):=λpins s σ H D' I h=>by
 obtain⟨τ,F,E,r,S,hg,k⟩:=h
 unfold zAO at hg
 split at hg
 ·rename_i t0 d0 e0
  obtain⟨v,e1,hg⟩:=Out.bind_ok hg
  obtain⟨ky,e2,hg⟩:=Out.bind_ok hg
  split at hg
  ·rename_i t d e3
   obtain⟨d',e4,hg⟩:=Out.bind_ok hg
   cases hg
   obtain⟨ad,a1,_⟩:=S.own i _ _ e0
   have pn:=zFF (pos:=q) hN hv hd hcd
   have fin:∀{F2 H2:Hp} {o:HO},Stp (owA σ E) F H F2 H2 (owA σ ky.2)->Sim X.K X.H₀ τ F2 H2 σ ky.2->OwnAt X.K F2 (upd H2 ad o) ad d'->D'.nx σ (upd H2 ad o):=λ{F2 H2 o} s2 S2 ow=>by
    obtain⟨S3,s3⟩:=S2.setO (o:=o) (d':=d') e3 a1 ow
    exact k σ F2 _ (s2.trans s3) S3
   have own:∀{F2 H2:Hp},Sim X.K X.H₀ τ F2 H2 σ ky.2->OwnAt X.K F2 H2 ad d:=λ{F2 H2} S2=>by
    obtain⟨ad',b1,_,b3,_⟩:=S2.own i t d e3
    rw[a1] at b1;cases b1
    exact b3
   cases d with
   |lst ds =>
    refine zN9 hvv (zX7 pn hk zRN ha) hs1 hw h1 pins s σ H D' I ?_
    refine⟨τ,F,E,v.1,v.2,S,e1,λvv F1 H1 s1 S1 r1=>⟨_,a1,τ,F1,v.2,ky.1,ky.2,S1,e2,λkk F2 H2 s2 S2 r2=>?_⟩⟩
    obtain⟨vs,o1,o2⟩:=own S2
    generalize hy:ky.1=y at e4 r2
    cases y with
    |int ii =>
     have e4:(match ixN ds.length ii with|some j=>Out.ok (D.lst (ds.set j v.1))|none=>.bad)=.ok d':=e4
     (first|obtain rfl:=r2.vI|obtain rfl:=r2.vB|obtain rfl:=r2.vS|obtain rfl:=r2.vN|cases r2)
     split at e4
     ·rename_i j ej
      cases e4
      exact⟨ad,vs,ii,j,rfl,rfl,o1,by rw[o2.length];exact ej,fin (s1.trans s2) S2 ⟨_,zAD,o2.set j (r1.le s2.le)⟩⟩
     ·cases e4
    |_=>cases e4
   |dk kvs =>
    refine zKX (by omega) pn hk hvv hs pins s σ H D' I ?_
    refine⟨τ,F,E,v.1,v.2,S,e1,λvv F1 H1 s1 S1 r1=>⟨_,a1,τ,F1,v.2,ky.1,ky.2,S1,e2,λkk F2 H2 s2 S2 r2=>?_⟩⟩
    obtain⟨vs,o1,o2⟩:=own S2
    have e4:(match zHZ ky.1 with|some k=>few kvs.length (Out.ok (D.dk (zEE kvs k v.1)))|none=>.bad)=.ok d':=e4
    split at e4
    ·rename_i k' ek
     obtain⟨hl,e4⟩:=zCH e4
     cases e4
     have ek':kk=kV k':=by
      generalize hy:ky.1=y at ek r2
      cases y<;>first|cases ek|skip
      ·(first|obtain rfl:=r2.vI|obtain rfl:=r2.vB|obtain rfl:=r2.vS|obtain rfl:=r2.vN|cases r2);rfl
      ·(first|obtain rfl:=r2.vI|obtain rfl:=r2.vB|obtain rfl:=r2.vS|obtain rfl:=r2.vN|cases r2);rfl
     subst ek'
     exact⟨ad,_,rfl,DPut.k o1 (by rw[o2.length];exact zDQ hl),fin (s1.trans s2) S2 ⟨_,zAD,o2.put k' (r1.le s2.le)⟩⟩
    ·cases e4
   |dt kvs =>
    refine zKX (by omega) pn hk hvv hs pins s σ H D' I ?_
    refine⟨τ,F,E,v.1,v.2,S,e1,λvv F1 H1 s1 S1 r1=>⟨_,a1,τ,F1,v.2,ky.1,ky.2,S1,e2,λkk F2 H2 s2 S2 r2=>?_⟩⟩
    obtain⟨vs,o1,o2⟩:=own S2
    generalize hy:ky.1=y at e4 r2
    cases y with
    |tup ks =>
     have e4:(match zA9 ks with|some ns=>few kvs.length (Out.ok (D.dt (zEE kvs ns v.1)))|none=>.bad)=.ok d':=e4
     split at e4
     ·rename_i ns ek
      obtain⟨hl,e4⟩:=zCH e4
      cases e4
      have:=zDE ek
      subst this
      generalize hk2:ns.map D.int=kk2 at r2
      cases r2 with
      |tup hb rb =>
       subst hk2
       have:=rb.vint
       subst this
       refine⟨ad,_,rfl,DPut.t (k:=ns.map Sum.inl) o1 ?_ (by rw[o2.length];exact zDQ hl),fin (s1.trans s2) S2 ⟨_,zAD,o2.put ns (r1.le s2.le)⟩⟩
       rw[List.map_map]
       exact S2.sub _ _ hb
      |@tupK a xs hb nb =>
       cases xs with
       |nil=>exact absurd rfl nb
       |cons x xs =>
        cases ns with
        |nil=>cases hk2
        |cons n ns=>cases hk2
     ·cases e4
    |_=>cases e4
   |_=>cases e4
  ·cases hg
 ·cases hg
end
section
variable{X:Cx}{K:PySem.W.Frag}{H₀ F H:Hp}{τ:Addr}{σ:St}{E:Ev}{a b c e tg:Expr}{es:List Expr}{ga gb gc ge:G}{gs:List G}{pos p:Pos}{x:Str}
noncomputable def tyN:D->String
 |.non=>"NoneType"
 |.bl _=>"bool"
 |.int _=>"int"
 |.str _=>"str"
 |.tup _=>"tuple"
 |.lst _=>"list"
 |.dk _=>"dict"
 |.dt _=>"dict"
noncomputable def isB(t c:String):Bool:=t==c||(t=="bool"&&c=="int")
noncomputable def zGC(c:String)(g:G):G:=λE=>(g E).bind λp=>.ok (.bl (isB (tyN p.1) c),p.2)
theorem zSU{pins:List (Addr×Obj)}{s:Shared}{A:Around}{Ex:Value->Shared->Prop}{Q:Value->Shared->Prop}{cv:Value}{bb:Bool}(I:Inv X pins σ H s){ad:Addr}{vs:List V}(h:SqL X.K H ad vs)
  (e:PySem.W.kitOne X.K (.type "list") cv=some bb) (hq:∀tk,Q (.bool bb) { s with toks:=tk }):wpAny (model X.prog X.w) A (call (.builtin "isinstance") [.ref ad,cv]) Q Ex s:=by
 obtain⟨its,r,pl,z⟩:=I.list h
 obtain⟨o,h1,h2,_⟩:=pl.isList
 exact PySem.W.kia_one PySem.W.kitx_list I.kIn ⟨o,h1,h2⟩ e (λz=>nomatch z) hq
theorem zJX{pins:List (Addr×Obj)}{s:Shared}{A:Around}{Ex:Value->Shared->Prop}{Q:Value->Shared->Prop}{cv:Value}{bb:Bool}(I:Inv X pins σ H s){ad:Addr}(h:(∃kvs,Rd H ad (.dK kvs))\/∃kvs,Rd H ad (.dT kvs))
  (e:PySem.W.kitOne X.K (.type "dict") cv=some bb) (hq:∀tk,Q (.bool bb) { s with toks:=tk }):wpAny (model X.prog X.w) A (call (.builtin "isinstance") [.ref ad,cv]) Q Ex s:=by
 rcases h with⟨kvs,h⟩|⟨kvs,h⟩
 ·obtain⟨_,_,vs,_,o,es,ep,h1,h2,_⟩:=(show ObjOk X.prog X.w H s.heap ad (.dK kvs) from h.ok I.hok)
  exact PySem.W.kia_one PySem.W.kitx_dict I.kIn ⟨o,h1,h2.1⟩ e (λz=>nomatch z) hq
 ·obtain⟨_,_,xs,_,o,es,ep,h1,h2,_⟩:=(show ObjOk X.prog X.w H s.heap ad (.dT kvs) from h.ok I.hok)
  exact PySem.W.kia_one PySem.W.kitx_dict I.kIn ⟨o,h1,h2.1⟩ e (λz=>nomatch z) hq
structure IsC(c:String):Prop where
 k:∀(K:PySem.W.Frag) (t:String),t∈["NoneType","bool","int","str","tuple","list","dict"]->PySem.W.kitOne K (.type t) (.type c)=some (isB t c)
theorem yB0:IsC "int":=⟨λK t h=>by simp only[List.mem_cons,List.not_mem_nil,or_false] at h;rcases h with rfl|rfl|rfl|rfl|rfl|rfl|rfl<;>rfl⟩
theorem zSV:IsC "bool":=⟨λK t h=>by simp only[List.mem_cons,List.not_mem_nil,or_false] at h;rcases h with rfl|rfl|rfl|rfl|rfl|rfl|rfl<;>rfl⟩
theorem zP3:IsC "tuple":=⟨λK t h=>by simp only[List.mem_cons,List.not_mem_nil,or_false] at h;rcases h with rfl|rfl|rfl|rfl|rfl|rfl|rfl<;>rfl⟩
def zZW(K:PySem.W.Frag)(c:String):List V->Hp->VK->Prop:=λxs H Q=>∃v F d,xs=[v,.ty c]/\Sub F H/\Rep K F v d/\Q (.bl (isB (tyN d) c)) H
theorem zNR{cn:String}(ic:IsC cn):CallR X (.builtin "isinstance") (zZW X.K cn):=by
 intro pins s σ H xs us Q I r h
 obtain⟨v,F,d,rfl,sb,rd,q⟩:=h
 cases r with
 |cons r1 r2 =>
  cases r2 with
  |cons r2 r3 =>
   (first|obtain rfl:=r3.vI|obtain rfl:=r3.vB|obtain rfl:=r3.vS|obtain rfl:=r3.vN|cases r3)
   (first|obtain rfl:=r2.vI|obtain rfl:=r2.vB|obtain rfl:=r2.vS|obtain rfl:=r2.vN|cases r2)
   have fin:∀{bb:Bool} (tk:Nat),isB (tyN d) cn=bb->EP X pins σ Q (.bool bb) { s with toks:=tk }:=λtk e=>by subst e;exact⟨.bl _,H,I.tok tk,rfl,q⟩
   cases d with
   |non=>(first|obtain rfl:=rd.vI|obtain rfl:=rd.vB|obtain rfl:=rd.vS|obtain rfl:=rd.vN|cases rd);exact zD2 I r1 .non (ic.k _ _ (by simp)) λtk=>fin tk rfl
   |bl b=>(first|obtain rfl:=rd.vI|obtain rfl:=rd.vB|obtain rfl:=rd.vS|obtain rfl:=rd.vN|cases rd);exact zD2 I r1 (.bl _) (ic.k _ _ (by simp)) λtk=>fin tk rfl
   |int i=>(first|obtain rfl:=rd.vI|obtain rfl:=rd.vB|obtain rfl:=rd.vS|obtain rfl:=rd.vN|cases rd);exact zD2 I r1 (.int _) (ic.k _ _ (by simp)) λtk=>fin tk rfl
   |str i=>(first|obtain rfl:=rd.vI|obtain rfl:=rd.vB|obtain rfl:=rd.vS|obtain rfl:=rd.vN|cases rd);exact zD2 I r1 (.str _) (ic.k _ _ (by simp)) λtk=>fin tk rfl
   |lst ds =>
    obtain⟨l,ys,rfl,h1,h2⟩:=rd.isRefL
    (first|obtain rfl:=r1.vI|obtain rfl:=r1.vB|obtain rfl:=r1.vS|obtain rfl:=r1.vN|cases r1)
    exact zSU I (h1.imp sb.rd id) (ic.k _ _ (by simp)) λtk=>fin tk rfl
   |tup ds =>
    obtain⟨l,ys,rfl,h2,h1⟩:=rd.tupSq
    (first|obtain rfl:=r1.vI|obtain rfl:=r1.vB|obtain rfl:=r1.vS|obtain rfl:=r1.vN|cases r1)
    exact zR2 I (h1 F H (.refl _) sb) (ic.k _ _ (by simp)) λtk=>fin tk rfl
   |dk kvs =>
    cases rd with
    |dk h1 _=>(first|obtain rfl:=r1.vI|obtain rfl:=r1.vB|obtain rfl:=r1.vS|obtain rfl:=r1.vN|cases r1);exact zJX I (.inl ⟨_,sb.rd h1⟩) (ic.k _ _ (by simp)) λtk=>fin tk rfl
   |dt kvs =>
    cases rd with
    |dt h1 _=>(first|obtain rfl:=r1.vI|obtain rfl:=r1.vB|obtain rfl:=r1.vS|obtain rfl:=r1.vN|cases r1);exact zJX I (.inr ⟨_,sb.rd h1⟩) (ic.k _ _ (by simp)) λtk=>fin tk rfl
theorem zUC{cn:String}{cx:Str}{cp:Pos}(ic:IsC cn)(hm:X.mg "isinstance"=none)(hmc:X.mg cx=none)(hvc:bootBuiltins cx=some (.type cn))(ha:VE X a ga)(hg:Gl X "isinstance":=by rfl)(hgc:Gl X cx:=by rfl)(hnc:cx≠"__name__":=by decide)(hdc:(cx==("__debug__":Str))=false:=by decide)
  (hs1:starEach [.Name cx cp] X.env=(false,eval (.Name cx cp) X.env)::starEach [] X.env:=by rfl)
  (he:starEach (a::[.Name cx cp]) X.env=(false,eval a X.env)::starEach [.Name cx cp] X.env:=by rfl) (hpl:(backTo pos (starEach [.Name cx cp] X.env)).any (·.1)=false:=by rfl) :
  VE X (.Call (.Name "isinstance" p) [a,.Name cx cp] [] pos) (zGC cn ga) :=
 (zHC (zNR ic) hg hm (by decide +kernel) (zBF ha (zBF (zUV (v:=.ty cn) hgc hmc hvc rfl hnc hdc) pa_nil hs1) he) (by decide) (by decide) he hpl).imp λσ H Q h=>by
  obtain⟨τ,F,E,d,E',S,hg,k⟩:=h
  obtain⟨q,e1,hg⟩:=Out.bind_ok hg
  cases hg
  exact⟨τ,F,E,q.1,q.2,S,e1,λv F1 H1 s1 S1 r1=>⟨v,F1,q.1,rfl,S1.sub,r1,k _ F1 H1 s1 S1 (.bl _)⟩⟩
theorem zH6:FE X (.Dict [] [] pos) (gC (.dk [])):=pe_dnewK.imp λσ H Q h q hq=>by
 obtain⟨τ,F,E,d,E',S,hg,k⟩:=h
 cases hg
 have n:=New.junk (H':=upd H q (.dK [])) S.sub (Gr.new hq)
 exact k q F _ n.stp (S.new n) (Sim.notF S.sub hq) hq ⟨_,zAD,.nil⟩ (S.fresh hq)
theorem zWH:FE X (.Dict [] [] pos) (gC (.dt [])):=pe_dnewT.imp λσ H Q h q hq=>by
 obtain⟨τ,F,E,d,E',S,hg,k⟩:=h
 cases hg
 have n:=New.junk (H':=upd H q (.dT [])) S.sub (Gr.new hq)
 exact k q F _ n.stp (S.new n) (Sim.notF S.sub hq) hq ⟨_,zAD,.nil⟩ (S.fresh hq)
noncomputable def zP4(gk gv:G):G:=λE=>(gk E).bind λp=>(gv p.2).bind λq=>match zHZ p.1 with
 |some k=>.ok (.dk [(k,q.1)],q.2)
 |none=>.bad
theorem zZX{y:D}{kk:V}{k':Key}(ek:zHZ y=some k')(r2:Rep K F kk y):kk=kV k':=by
 cases y<;>first|cases ek|skip
 ·(first|obtain rfl:=r2.vI|obtain rfl:=r2.vB|obtain rfl:=r2.vS|obtain rfl:=r2.vN|cases r2);rfl
 ·(first|obtain rfl:=r2.vI|obtain rfl:=r2.vB|obtain rfl:=r2.vS|obtain rfl:=r2.vN|cases r2);rfl
theorem zWI {gk gv : G} {kx vx : Expr} (hk : VE X kx gk) (hv : VE X vx gv) : FE X (.Dict [some kx] [vx] pos) (zP4 gk gv) := (zVB (zRT hk hv zVA) rfl rfl (by simp) (by show 1 ≤ 15; decide)).imp fun σ H Q h q hq => by
  obtain ⟨τ, F, E, d, E', S, hg, k⟩ := h
  obtain ⟨p, e1, hg⟩ := Out.bind_ok hg
  obtain ⟨r, e2, hg⟩ := Out.bind_ok hg
  split at hg
  · rename_i k' ek
    cases hg
    have n := New.junk (H' := upd H q (.dK [])) S.sub (Gr.new hq)
    have S0 := S.new n
    have keep : ∀ {Ea Eb : Ev} {Fa Ha Fb Hb : Hp}, Stp (owA σ Ea) Fa Ha Fb Hb (owA σ Eb) → Fa q = none → ¬ owA σ Ea q → Ha q = some (.dK []) → Fb q = none ∧ ¬ owA σ Eb q ∧ Hb q = some (.dK []) := by
      intro Ea Eb Fa Ha Fb Hb st a1 a2 a3
      refine ⟨?_, fun z => (st.own q z).elim a2 fun z => by (rw [a3] at z; cases z), st.keep q _ a3 trivial a1 a2⟩
      cases z : Fb q with
      | none => rfl
      | some u => rcases st.new q u z with z | z | z
                  · exact absurd a1 z
                  · exact absurd trivial (z _ a3)
                  · exact absurd z a2
    refine ⟨τ, F, E, p.1, p.2, S0, e1, fun kk F1 H1 s1 S1 r1 => ⟨τ, F1, p.2, r.1, r.2, S1, e2, fun vv F2 H2 s2 S2 r2 => ?_⟩⟩
    obtain ⟨f1, m1, h1⟩ := keep s1 (Sim.notF S.sub hq) (S.fresh hq) zAD
    obtain ⟨f2, m2, h2⟩ := keep s2 f1 m1 h1
    have := zZX ek r1
    subst this
    refine ⟨h2, [(k', vv)], rfl, by show 1 ≤ 15; decide, ?_⟩
    have st : Stp (owA σ E) F H F2 (upd H2 q (.dK [(k', vv)])) (owA σ r.2) := by
      have s12 := ((n.stp (ow := owA σ E)).trans s1).trans s2
      refine ⟨fun a u e hw nf ho => ?_, fun a e => ?_, s12.le, s12.new, s12.own⟩
      · rw [zAE (zAS e hq)]; exact s12.keep a u e hw nf ho
      · by_cases ha : a = q
        · rw [ha]; exact hq
        · rw [zAE ha] at e; exact s12.dom a e
    exact k q F2 _ st (S2.off f2 m2) f2 hq ⟨_, zAD, .cons r2 .nil⟩ m2
  · cases hg
noncomputable def zP5(gd gk gx:G):G:=λE=>(gd E).bind λp=>(gk p.2).bind λq=>(gx q.2).bind λr=>match zJR p.1 q.1 with
 |some o=>.ok (o.getD r.1,r.2)
 |none=>.bad
theorem zZY{gd gk gx:G}{o kx dx:Expr}{apos cpos:Pos}(hu:X.A.units+64<cLine)(ho:VE X o gd)(hk:VE X kx gk)(hx:VE X dx gx)(m:M2 X o "get" apos kx dx cpos:=by exact⟨rfl,rfl,rfl,rfl⟩):VE X (.Call (.Attribute o "get" apos) [kx,dx] [] cpos) (zP5 gd gk gx):=(zRU (by lia) ho hk hx m).imp λσ H Q h=>by
 obtain⟨τ,F,E,d,E',S,hg,k⟩:=h
 obtain⟨p,e1,hg⟩:=Out.bind_ok hg
 obtain⟨q,e2,hg⟩:=Out.bind_ok hg
 obtain⟨r,e3,hg⟩:=Out.bind_ok hg
 split at hg
 ·rename_i od eo
  cases hg
  refine⟨τ,F,E,p.1,p.2,S,e1,λv F1 H1 s1 S1 r1=>?_⟩
  have isd:∃ad,v=.ref ad/\IsD H1 ad:=by
   generalize hy:p.1=y at eo r1
   cases y with
   |dk kvs=>cases r1 with|dk h1 _=>exact⟨_,rfl,.inl ⟨_,S1.sub.rd h1⟩⟩
   |dt kvs=>cases r1 with|dt h1 _=>exact⟨_,rfl,.inr ⟨_,S1.sub.rd h1⟩⟩
   |_=>cases eo
  obtain⟨ad,rfl,hd⟩:=isd
  refine⟨ad,rfl,hd,τ,F1,p.2,q.1,q.2,S1,e2,λkk F2 H2 s2 S2 r2=>⟨τ,F2,q.2,r.1,r.2,S2,e3,λz F3 H3 s3 S3 r3=>?_⟩⟩
  obtain⟨a',ov,ea,g,ro⟩:=Rep.dget S3.sub ((r1.le s2.le).le s3.le) (r2.le s3.le) eo
  cases ea
  refine⟨ov,g,k _ F3 H3 ((s1.trans s2).trans s3) S3 ?_⟩
  cases od with
  |none=>have:=ro.none_of;subst this;exact r3
  |some d0=>obtain⟨w,rfl,rw'⟩:=ro.some_of;exact rw'
 ·cases hg
noncomputable def yC7:D->Out Bool
 |.non=>.ok false
 |.bl b=>.ok b
 |.int i=>.ok (i != 0)
 |.lst ds=>.ok (!ds.isEmpty)
 |.tup ds=>.ok (!ds.isEmpty)
 |.str z=>few z.length (.ok ((z.length:Int) != 0))
 |_=>.bad
noncomputable def zKK(g:G):Ev->Out (Bool×Ev):=λE=>(g E).bind λp=>(yC7 p.1).bind λb=>.ok (b,p.2)
theorem Reps.isEmpty{vs:List V}{ds:List D}(r:Reps K F vs ds):vs.isEmpty=ds.isEmpty:=by (first|obtain rfl:=r.vI|obtain rfl:=r.vB|obtain rfl:=r.vS|obtain rfl:=r.vN|cases r)<;>rfl
theorem zFB(ha:VE X a ga)(he:∀whole,isTrue a X.env whole=(do let v <-whole;standAt a.pos;holding [v] (truthy v)):=by intro _;rfl):VT X a (zKK ga):=(zRG ha he).imp λσ H Q h=>by
 obtain⟨τ,F,E,d,E',S,hg,k⟩:=h
 obtain⟨p,e1,hg⟩:=Out.bind_ok hg
 obtain⟨b,e2,hg⟩:=Out.bind_ok hg
 cases hg
 refine⟨τ,F,E,p.1,p.2,S,e1,λv F1 H1 s1 S1 r1=>⟨d,?_,k F1 H1 s1 S1⟩⟩
 generalize hy:p.1=y at e2 r1
 cases y with
 |non=>(first|obtain rfl:=r1.vI|obtain rfl:=r1.vB|obtain rfl:=r1.vS|obtain rfl:=r1.vN|cases r1);cases e2;rfl
 |bl b=>(first|obtain rfl:=r1.vI|obtain rfl:=r1.vB|obtain rfl:=r1.vS|obtain rfl:=r1.vN|cases r1);cases e2;rfl
 |int i=>(first|obtain rfl:=r1.vI|obtain rfl:=r1.vB|obtain rfl:=r1.vS|obtain rfl:=r1.vN|cases r1);cases e2;rfl
 |str z =>
  (first|obtain rfl:=r1.vI|obtain rfl:=r1.vB|obtain rfl:=r1.vS|obtain rfl:=r1.vN|cases r1)
  obtain⟨hl,e2⟩:=zCH e2
  cases e2
  exact⟨le4 hl,rfl⟩
 |lst ds =>
  cases e2
  obtain⟨l,ys,rfl,h1,h2⟩:=r1.isRefL
  exact .inl ⟨ys,h1.imp S1.sub.rd id,by rw[h2.isEmpty]⟩
 |tup ds =>
  cases e2
  obtain⟨l,ys,rfl,h2,h1⟩:=r1.tupSq
  exact .inr (.inl ⟨ys,h1 F1 H1 (.refl _) S1.sub,by rw[h2.isEmpty]⟩)
 |_=>cases e2
noncomputable def zGX(lo:Int)(n:Nat):List D:=(List.range n).map λi:Nat=>D.int (lo+(i:Int))
theorem zJY(lo:Int)(n:Nat):Walks K (Itr lo n) F (zGX lo n):=λi F1 H1 l s=>by
 have hl:(zGX lo n).length=n:=by simp[zGX]
 refine⟨λhi=>by rw[hl] at hi;exact hi,λhi=>by rw[hl] at hi;rw[hi];exact Nat.le_refl _,λx H' d e ⟨e1,y⟩=>?_⟩
 subst e1 y
 unfold zGX at e
 rw[List.getElem?_map] at e
 cases q:(List.range n)[i]? with
 |none=>rw[q] at e;cases e
 |some j =>
  rw[q] at e
  have:j=i:=by
   obtain⟨h1,h2⟩:=List.getElem?_eq_some_iff.mp q
   rw[List.getElem_range] at h2;exact h2.symm
  subst this
  cases e
  exact⟨F1,.refl s,.int _⟩
def zFQ(i:Int):Prop:=-1000000<=i/\i<=1000000
instance (i:Int):Decidable (zFQ i):=inferInstanceAs (Decidable (_/\_))
noncomputable def zLI(g:G):GI:=λE=>(g E).bind λp=>match p.1 with|.int j=>guard (zFQ j) (.ok (zGX 0 j.toNat,p.2))|_=>.bad
noncomputable def zP6(g g':G):GI:=λE=>(g E).bind λp=>(g' p.2).bind λq=>match p.1,q.1 with|.int i,.int j=>guard (zFQ i/\zFQ j) (.ok (zGX i (j-i).toNat,q.2))|_,_=>.bad
theorem zJZ(hm:X.mg "range"=none)(ha:VE X a ga)(hg:Gl X "range":=by rfl)(hs:starEach [a] X.env=[(false,eval a X.env)]:=by rfl)(hs0:starEach [a] X.env=(false,eval a X.env)::starEach [] X.env:=by rfl):VI X tg (.Call (.Name "range" p) [a] [] pos) (zLI ga):=(zIT hg hm (zBF ha pa_nil hs0) hs).imp λσ H Q h=>by
 obtain⟨τ,F,E,ds,E',S,hg,k⟩:=h
 obtain⟨q,e1,hg⟩:=Out.bind_ok hg
 refine⟨τ,F,E,q.1,q.2,S,e1,λv F1 H1 s1 S1 r1=>?_⟩
 split at hg
 ·rename_i j ej
  obtain⟨⟨g1,g2⟩,hg⟩:=zB2 hg
  cases hg
  rw[ej] at r1
  (first|obtain rfl:=r1.vI|obtain rfl:=r1.vB|obtain rfl:=r1.vS|obtain rfl:=r1.vN|cases r1)
  exact⟨j,rfl,by lia,by lia,k _ F1 H1 s1 S1 (zJY 0 _)⟩
 ·cases hg
theorem zP7(hm:X.mg "range"=none)(ha:VE X a ga)(hb:VE X b gb)(hg:Gl X "range":=by rfl)(hs:starEach [a,b] X.env=[(false,eval a X.env),(false,eval b X.env)]:=by rfl)(hs2:starEach [b] X.env=[(false,eval b X.env)]:=by rfl)
  (hs0:starEach [a,b] X.env=(false,eval a X.env)::starEach [b] X.env:=by rfl) (hs1:starEach [b] X.env=(false,eval b X.env)::starEach [] X.env:=by rfl):VI X tg (.Call (.Name "range" p) [a,b] [] pos) (zP6 ga gb):=(zOE hg hm (zBF ha (zBF hb pa_nil hs1) hs0) hs hs2).imp λσ H Q h=>by
 obtain⟨τ,F,E,ds,E',S,hg,k⟩:=h
 obtain⟨q,e1,hg⟩:=Out.bind_ok hg
 obtain⟨r,e2,hg⟩:=Out.bind_ok hg
 refine⟨τ,F,E,q.1,q.2,S,e1,λv F1 H1 s1 S1 r1=>⟨τ,F1,q.2,r.1,r.2,S1,e2,λu F2 H2 s2 S2 r2=>?_⟩⟩
 split at hg
 ·rename_i i j ei ej
  obtain⟨⟨⟨g1,g2⟩,g3,g4⟩,hg⟩:=zB2 hg
  cases hg
  rw[ei] at r1
  rw[ej] at r2
  (first|obtain rfl:=r1.vI|obtain rfl:=r1.vB|obtain rfl:=r1.vS|obtain rfl:=r1.vN|cases r1);(first|obtain rfl:=r2.vI|obtain rfl:=r2.vB|obtain rfl:=r2.vS|obtain rfl:=r2.vN|cases r2)
  exact⟨i,j,rfl,⟨by lia,by lia,by lia,by lia⟩,k _ F2 H2 (s1.trans s2) S2 (zJY i _)⟩
 ·cases hg
noncomputable def zJ0(ds:List D):List D:=ds.zipIdx.map λp=>.tup [.int (p.2:Int),p.1]
theorem zSW{ds:List D}{i:Nat}{d:D}(e:(zJ0 ds)[i]?=some d):∃d0,ds[i]?=some d0/\d=.tup [.int (i:Int),d0]:=by
 unfold zJ0 at e
 rw[List.getElem?_map,List.getElem?_zipIdx] at e
 cases q:ds[i]? with
 |none=>rw[q] at e;cases e
 |some d0=>rw[q] at e;cases e;exact⟨d0,rfl,by simp⟩
noncomputable def zP8(g:G):GI:=λE=>(g E).bind λp=>match p.1 with
 |.lst ds=>.ok (zJ0 ds,p.2)
 |_=>.bad
theorem zSX(hm:X.mg "enumerate"=none)(ha:VE X a ga)(hg:Gl X "enumerate":=by rfl)(hs:starEach [a] X.env=[(false,eval a X.env)]:=by rfl)(hs0:starEach [a] X.env=(false,eval a X.env)::starEach [] X.env:=by rfl):VI X tg (.Call (.Name "enumerate" p) [a] [] pos) (zP8 ga):=λpins s σ H R I h=>by
 obtain⟨τ,F,E,ds,E',S,hg',k⟩:=h
 obtain⟨q,e1,hg'⟩:=Out.bind_ok hg'
 have hl:∀ds0:List D,(zJ0 ds0).length=ds0.length:=λds0=>by simp[zJ0]
 split at hg'
 ·rename_i ds0 ed
  cases hg'
  refine zSJ hg hm (zBF ha pa_nil hs0) hs pins s σ H R I ⟨τ,F,E,q.1,q.2,S,e1,λv F1 H1 s1 S1 r1=>?_⟩
  rw[ed] at r1
  obtain⟨l,ys,rfl,h1,h2⟩:=r1.isRefL
  refine⟨l,rfl,⟨ys,h1.imp S1.sub.rd id⟩,k _ F1 H1 s1 S1 λi F2 H2 l2 s2=>?_⟩
  have sq:SqL X.K H2 l ys:=h1.imp (λh=>s2.rd (l2.rd h)) id
  refine⟨λhi=>?_,λhi=>⟨ys,sq,by rw[h2.length,hi,hl];exact Nat.le_refl _⟩,λx H' d e ⟨pp,xx,ex,hp,eH,y⟩=>?_⟩
  ·have hv:i<ys.length:=by rw[h2.length];rw[hl] at hi;exact hi
   exact⟨ys,ys[i],sq,by simp[hv]⟩
  ·subst ex eH
   obtain⟨d0,z1,z2⟩:=zSW e
   subst z2
   obtain⟨w,w1,w2⟩:=h2.get z1
   rw[y ys sq] at w1;cases w1
   have n:=New.laid (o:=.tup [.int i,xx]) s2 hp
   exact⟨_,n,.tup zAD (.cons (.int _) (.cons ((w2.le l2).le n.1.le) .nil))⟩
 ·cases hg'
noncomputable def gLR(g:G):G:=λE=>(g E).bind λp=>match p.1 with|.int j=>guard (0<=j/\j<=1000) (.ok (.lst (zGX 0 j.toNat),p.2))|_=>.bad
theorem zLJ{rp rpos:Pos}(hc:X.calm=true)(hm:X.mg "range"=none)(hml:X.mg "list"=none)(ha:VE X a ga)(hg:Gl X "range":=by rfl)(hgl:Gl X "list":=by rfl)
  (hs0:starEach [a] X.env=(false,eval a X.env)::starEach [] X.env:=by rfl) (hp0:(backTo rpos (starEach [] X.env)).any (·.1)=false:=by rfl)
  (he:starEach [.Call (.Name "range" rp) [a] [] rpos] X.env=(false,eval (.Call (.Name "range" rp) [a] [] rpos) X.env)::starEach [] X.env:=by rfl) (hpl:(backTo pos (starEach [] X.env)).any (·.1)=false:=by rfl) :
  FE X (.Call (.Name "list" p) [.Call (.Name "range" rp) [a] [] rpos] [] pos) (gLR ga) :=
 (zD3 (zHN hc) hgl hml (by decide +kernel) (zBF (zD3 zR1 hg hm (by decide +kernel) (zBF ha pa_nil hs0) (by decide) (by decide) hs0 hp0) pa_nil he) (by decide) (by decide) he hpl).imp λσ H Q h=>by
  obtain⟨τ,F,E,d,E',S,hg,k⟩:=h
  obtain⟨q,e1,hg⟩:=Out.bind_ok hg
  refine⟨τ,F,E,q.1,q.2,S,e1,λv F1 H1 s1 S1 r1=>?_⟩
  split at hg
  ·rename_i j ej
   obtain⟨⟨g1,g2⟩,hg⟩:=zB2 hg
   cases hg
   rw[ej] at r1
   (first|obtain rfl:=r1.vI|obtain rfl:=r1.vB|obtain rfl:=r1.vS|obtain rfl:=r1.vN|cases r1)
   refine⟨j,rfl,λpp hp=>⟨pp,j.toNat,rfl,by rw[zAD,Int.toNat_of_nonneg g1],by lia,λl hl=>?_⟩⟩
   have n:=New.junk (H':=upd (upd H1 pp (.rng 0 j)) l (.lst ((List.range j.toNat).map λi:Nat=>V.int (i:Int)))) S1.sub ((Gr.new hp).trans (Gr.new hl))
   have hl1:H1 l=none:=(Gr.new hp).dom l hl
   refine k l F1 _ (s1.trans n.stp) (S1.new n) (Sim.notF S1.sub hl1) (s1.dom l hl1) ⟨_,zAD,?_⟩ (S1.fresh hl1)
   have:zGX 0 j.toNat=((List.range j.toNat).map λi:Nat=>(i:Int)).map D.int:=by unfold zGX;rw[List.map_map];congr 1;funext i;simp
   rw[this,show((List.range j.toNat).map λi:Nat=>V.int (i:Int))=((List.range j.toNat).map λi:Nat=>(i:Int)).map V.int by rw[List.map_map];rfl]
   exact Reps.ints _
  ·cases hg
end
section
variable{X:Cx}{K:PySem.W.Frag}{H₀ F H F' H':Hp}{τ:Addr}{σ:St}{E:Ev}{a b c e tg:Expr}{es:List Expr}{g ga gb gc ge:G}{gs:List G}{pos p:Pos}{x:Str}{k np:Nat}{m:Mr}
noncomputable def D.kids:D->Bool
 |.lst ds=>D.flats ds
 |.dk kvs=>D.flats (kvs.map (·.2))
 |.dt kvs=>D.flats (kvs.map (·.2))
 |_=>false
noncomputable def zWJ(is:List Nat)(g:G):G:=λE=>(g (zDO is E)).bind λp=>if p.1.kids=true then .ok (p.1,E) else .bad
theorem RepK.flat2{F F2:Hp}(ht:∀a vs,F a=some (.tup vs)->F2 a=some (.tup vs)):∀{vs:List (Key×V)} {ds:List (Key×D)},RepK K F vs ds->D.flats (ds.map (·.2))=true->RepK K F2 vs ds
 |_,_,.nil,_=>.nil
 |_,_,.cons h r,e=>by
  rw[List.map_cons,D.flats,Bool.and_eq_true] at e
  exact .cons (Rep.flat2 ht h e.1) (RepK.flat2 ht r e.2)
theorem RepT.flat2{F F2:Hp}(ht:∀a vs,F a=some (.tup vs)->F2 a=some (.tup vs)):∀{vs:List (List Key×V)} {ds:List (List Int×D)},RepT K F vs ds->D.flats (ds.map (·.2))=true->RepT K F2 vs ds
 |_,_,.nil,_=>.nil
 |_,_,.cons h r,e=>by
  rw[List.map_cons,D.flats,Bool.and_eq_true] at e
  exact .cons (Rep.flat2 ht h e.1) (RepT.flat2 ht r e.2)
theorem yB1(is:List Nat)(h:FE X e g):FE X e (zWJ is g):=by
 intro pins s σ H Q I ⟨τ,F,E,d,E',S,hg,k⟩
 obtain⟨p,eg,hg⟩:=Out.bind_ok hg
 split at hg
 ·rename_i hl
  cases hg
  obtain⟨S1,no⟩:=S.lend is
  refine thn (h pins s σ H (λv H'=>∃ad F' ow',v=.ref ad/\Stp (λ_=>False) (zK6 σ E is F H) H F' H' ow'/\Sub F' H'/\F' ad=none/\H ad=none/\OwnAt X.K F' H' ad p.1) I ⟨τ,_,_,p.1,p.2,S1,eg,λad F' H' st S' n1 n2 ow _=>⟨ad,F',_,rfl,st.toF no,S'.sub,n1,n2,ow⟩⟩) λu s' ⟨v,H',I',rv,ad,F',ow',ev,st,sb,n1,n2,ow⟩=>?_
  subst ev
  obtain⟨t1,t2,t3,h1,_⟩:=S.back is st sb
  have ht:∀a vs,F' a=some (.tup vs)->zJO σ E is F' a=some (.tup vs):=λa vs e=>h1 a _ e λo w ho=>⟨λz=>by subst z;exact ho,λz=>HO.noConfusion z⟩
  have nl:¬Lent σ E is ad:=λz=>by
   obtain⟨_,⟨o,ho,_⟩,_⟩:=S.owned z.ow
   rw[n2] at ho;cases ho
  have hh:zN1 σ E is H H' ad=H' ad:=by unfold zN1;rw[if_neg nl]
  refine⟨.ref ad,_,I'.thaw t1,rv,k ad _ _ t2 t3 (by unfold zJO;rw[if_neg nl];exact n1) n2 ?_ (S.fresh n2)⟩
  generalize hy:p.1=y at ow hl
  cases y with
  |lst ds=>obtain⟨vs,q,r⟩:=ow;exact⟨vs,hh.trans q,Reps.flat2 ht r hl⟩
  |dk ds=>obtain⟨vs,q,r⟩:=ow;exact⟨vs,hh.trans q,RepK.flat2 ht r hl⟩
  |dt ds=>obtain⟨vs,q,r⟩:=ow;exact⟨vs,hh.trans q,RepT.flat2 ht r hl⟩
  |_=>exact ow.elim
 ·cases hg
noncomputable def zGY(m:Mr)(gf:G)(gs:List G):G:=λE=>(gf E).bind λf=>(zBX gs f.2).bind λp=>(m (.own true f.1::p.1.map Sl.val)).bind λq=>.ok (q.2.1,p.2)
theorem zSY{gf:G}(hn:gs.length+1=np){Q:VK}(h:tV K H₀ (zGY m gf gs) σ H Q):zOK (spV K np m) [] E0 (zOJ (tF K H₀ gf) (tAr K H₀ gs)) σ H Q:=by
 obtain⟨τ,F,E,d,E',S,hg,k⟩:=h
 obtain⟨f,e0,hg⟩:=Out.bind_ok hg
 obtain⟨p,e1,hg⟩:=Out.bind_ok hg
 obtain⟨q,e2,hg⟩:=Out.bind_ok hg
 cases hg
 refine⟨τ,F,E,f.1,f.2,S,e0,λad F0 H0 s0 S0 n1 n2 ow no=>⟨τ,F0,f.2,p.1,p.2,S0,e1,λvs F1 H1 s1 S1 r1=>?_⟩⟩
 obtain⟨o,ho,hw⟩:=ow.ho
 have k1:H1 ad=some o:=s1.keep ad o ho hw n1 no
 have f1:F1 ad=none:=s1.nF n1 ho hw no
 have ow1:OwnAt K F1 H1 ad f.1:=ow.mono s1.le (k1.trans ho.symm)
 have no1:¬owA σ p.2 ad:=λz=>(s1.own ad z).elim no λz=>by (rw[ho] at z;cases z)
 rw[List.append_nil]
 refine⟨by rw[List.length_cons,r1.length,zDD e1,hn],ad,F1,_,q.1,q.2.1,q.2.2,Sim.argsR S1.sub r1 f1 ow1,yBR,e2,λv F2 H2 s2 S2 rr=>?_⟩
 have s2:Stp (owA ((V.ref ad::vs).map some) (.own true f.1::p.1.map Sl.val)) F1 H1 F2 H2 (owA ((V.ref ad::vs).map some) (.own true q.2.2::p.1.map Sl.val)):=s2
 have hne:∀b,owA σ p.2 b->b≠ad:=λb z y=>no1 (by rw[<-y];exact z)
 have Sm:Sim K H₀ τ F2 H2 σ p.2:=by
  refine⟨S2.sub,S1.len,λj d' z=>?_,λj t' d' z=>?_,S1.inj⟩
  ·obtain⟨v,h1,h2⟩:=S1.val j d' z
   exact⟨v,h1,h2.le s2.le⟩
  ·obtain⟨c,c1,c2,c3,c4⟩:=S1.own j t' d' z
   obtain⟨oc,hoc,hwc⟩:=c3.ho
   have hca:c≠ad:=hne c ⟨j,t',d',z,c1⟩
   exact⟨c,c1,s2.nF c2 hoc hwc λy=>hca (owR y),c3.mono s2.le ((s2.keep c oc hoc hwc c2 λy=>hca (owR y)).trans hoc.symm),c4⟩
 have s01:=s0.trans s1
 have st:Stp (owA σ E) F H F2 H2 (owA σ p.2):=by
  refine⟨λb u z hw' n hb=>?_,λb z=>s01.dom b (s2.dom b z),s01.le.trans s2.le,λb u z=>?_,s01.own⟩
  ·have hb1:=s01.keep b u z hw' n hb
   exact s2.keep b u hb1 hw' (s01.nF n z hw' hb) λy=>by rw[owR y,n2] at z;cases z
  ·rcases s2.new b u z with y|y|y
   ·cases w:F1 b with
    |none=>exact absurd w y
    |some u'=>exact s01.new b u' w
   ·exact s01.nw y
   ·rw[owR y];exact .inr (.inl (.none n2))
 cases hb:q.1 with
 |false =>
  rw[hb] at rr
  exact k v F2 H2 st Sm rr
 |true =>
  rw[hb] at rr
  obtain⟨c,rfl,h1,h2,h3,h4⟩:=rr
  obtain⟨o',ho',_⟩:=h2.ho
  have nc:∀b,owA σ p.2 b->b≠c:=λb z y=>by subst y;exact S1.fresh h3 z
  refine k _ (upd F2 c o') H2 ⟨st.keep,st.dom,st.le.trans (.of_gr (Gr.new h1)),λb u z=>?_,st.own⟩ ⟨λb u z=>?_,Sm.len,λj d' z=>?_,λj t' d' z=>?_,Sm.inj⟩ (h2.rep h1 ho')
  ·by_cases hb:b=c
   ·subst hb;exact .inr (.inl (.none (s01.dom b h3)))
   ·rw[zAE hb] at z;exact st.new b u z
  ·by_cases hb:b=c
   ·subst hb;rw[zAD] at z;rw[ho'];exact z
   ·rw[zAE hb] at z;exact Sm.sub b u z
  ·obtain⟨v,y1,y2⟩:=Sm.val j d' z
   exact⟨v,y1,y2.le (.of_gr (Gr.new h1))⟩
  ·obtain⟨b,y1,y2,y3,y4⟩:=Sm.own j t' d' z
   exact⟨b,y1,by rw[zAE (nc b ⟨j,t',d',z,y1⟩)];exact y2,y3.mono (.of_gr (Gr.new h1)) rfl,y4⟩
theorem zWK{gf:G}(C:Cal X.prog X.w X.K X.mg X.base x k np m)(hr:Room k X.A)(hf:FE X e gf)(ha:VA X es gs)(hn:gs.length+1=np:=by rfl)(hg:Gl X x:=by rfl)(hdb:(x==("__debug__":Str))=false:=by decide)
  (he:starEach (e::es) X.env=(false,eval e X.env)::starEach es X.env:=by rfl) (hpl:(backTo pos (starEach es X.env)).any (·.1)=false:=by rfl):VE X (.Call (.Name x p) (e::es) [] pos) (zGY m gf gs):=by
 obtain⟨f,fd,ps,Fn,hm,hk,hb⟩:=C
 exact(zHB Fn hr hg hm hk hb .nil zRW (zBF hf ha he) hdb he hpl).imp λ_ _ _ h=>zSY hn h
theorem zLK{scope:Scope}{cl:List (Str×Addr)}{own caps:List Str}{js:List Nat}{i:Nat}{elt iter:Expr}{ifs:List Expr}{pos' spos:Pos}{gi:GI}{t:Tg}{tt:Ev->Out (Bool×Ev)}{ge:G}(n:CompNm X scope cl own caps js)(hc:X.calm=true)(hi:VI X tg iter gi)
  (hg:∀C s H fp,VG (zAT X scope cl (own++caps) C s H fp) tg t) (ht:∀C s H fp,VTs (zAT X scope cl (own++caps) C s H fp) ifs tt) (he:∀C s H fp,VE (zAT X scope cl (own++caps) C s H fp) elt ge)
  (hN:X.N.Nodup) (hx:X.N[i]?=some x) (hl:X.env.scope.names.lookup x=some .local)
  (hsw:swapsWith (.ListComp elt [⟨tg,iter,ifs,0⟩] scope pos) (some (.Name x pos')) spos.line X.env=pure true)
  (hlt:t.ltn own.length=true:=by rfl) (hj:js.Nodup:=by decide) (hs:∀x,foldedSetIterable iter X.env x=pure x:=by intro _;rfl):VS X (.Assign [.Name x pos'] (.ListComp elt [⟨tg,iter,ifs,0⟩] scope pos) spos) (zCD (.nm i) (zDW gi own.length js t tt ge)) :=
 λpins s σ H D' I h=>by
  refine zGO (g:=λH=>tG X.K H t) (tt:=λH=>tT X.K H tt) (te:=λH=>tV X.K H ge) n hc hi hg ht he hN hx hl hsw hs pins s σ H D' I ?_
  refine zPP hlt hj (tF.toV ?_)
  obtain⟨τ,F,E,r,S,hg,k⟩:=h
  obtain⟨p,e1,hg⟩:=Out.bind_ok hg
  obtain⟨E1,e2,hg⟩:=Out.bind_ok hg
  cases hg
  rw[gTg] at e2
  cases e2
  refine⟨τ,F,E,p.1,p.2,S,e1,λv F1 H1 s1 S1 r1=>?_⟩
  obtain⟨S2,h2⟩:=S1.put (i:=i) r1
  exact k _ F1 H1 (s1.weak h2) S2
theorem Fun.cal{P:Program}{w:World}{mg:Str->Option Value}{base:Heap}{ps:List Str}{st:Stmt}{f:Addr}{fd:FuncData}(Fn:Fun K x x st f fd)(h:FnOk P w K mg base CX0 k f fd ps (spV K np m))(hm:mg x=some (.ref f))(hb:Binds K fd ps []):Cal P w K mg base x k np m:=⟨f,fd,ps,h,hm,Fn.kp,hb⟩
end
theorem zQ7{α:Type}{Pr:α->Prop}:∀p∈([]:List α),Pr p:=λp hp=>nomatch hp
theorem al1{α:Type}{Pr:α->Prop}{a:α}(h:Pr a):∀p∈[a],Pr p:=λp hp=>by rw[List.mem_singleton.mp hp];exact h
theorem alc{α:Type}{Pr:α->Prop}{a:α}{l:List α}(h:Pr a)(t:∀p∈l,Pr p):∀p∈a::l,Pr p:=λp hp=>by
 rcases List.mem_cons.mp hp with rfl|hp
 ·exact h
 ·exact t p hp
theorem al2{α:Type}{Pr:α->Prop}{a b:α}(h1:Pr a)(h2:Pr b):∀p∈[a,b],Pr p:=alc h1 (al1 h2)
section
variable{X:Cx}{a b c:Expr}{ga gb:G}{pos:Pos}
theorem yD1{t:Ev->Out (Bool×Ev)}(hc:VT X c t)(ha:FE X a ga)(hb:FE X b gb):FE X (.IfExp c a b pos) (gIf t ga gb):=(zRE hc ha hb).imp λσ H Q q=>by
 obtain⟨τ,F,E,d,E',S,hg,k⟩:=q
 obtain⟨p,ea,hg⟩:=Out.bind_ok hg
 refine⟨τ,F,E,p.1,p.2,S,ea,λF1 H1 st1 S1=>?_⟩
 by_cases hp:p.1=true
 ·rw[if_pos hp] at hg ⊢
  exact⟨τ,F1,p.2,d,E',S1,hg,λad F2 H2 st2 S2 n1 n2 ow no=>k ad F2 H2 (st1.trans st2) S2 n1 (st1.dom ad n2) ow no⟩
 ·rw[if_neg hp] at hg ⊢
  exact⟨τ,F1,p.2,d,E',S1,hg,λad F2 H2 st2 S2 n1 n2 ow no=>k ad F2 H2 (st1.trans st2) S2 n1 (st1.dom ad n2) ow no⟩
end
section
variable{X:Cx}{K:PySem.W.Frag}{H₀ F H:Hp}{e tg:Expr}{ge:G}
theorem New.froze{a:Addr}{o:Obj}{u:HO}(s:Sub F H)(h:F a=some u)(hd:zPE u):New F H (upd F a (.frz o u)) (upd H a (.frz o u)):=by
 have hh:=s a u h
 refine⟨⟨λb v e _ n _=>?_,λb e=>?_,λb v e=>?_,λb v e=>?_,λ_ z=>z.elim⟩,λb v e=>?_⟩
 ·rw[zAE (λz=>by rw[z,h] at n;cases n)];exact e
 ·by_cases hb:b=a
  ·rw[hb,zAD] at e;cases e
  ·rw[zAE hb] at e;exact e
 ·by_cases hb:b=a
  ·subst hb;rw[h] at e;cases e;exact .inr (.inl ⟨hd,o,zAD⟩)
  ·exact .inl (by rw[zAE hb];exact e)
 ·by_cases hb:b=a
  ·subst hb;exact .inl (by rw[h];exact nofun)
  ·rw[zAE hb] at e;exact .inl (by rw[e];exact nofun)
 ·by_cases hb:b=a
  ·subst hb;rw[zAD] at e ⊢;exact e
  ·rw[zAE hb] at e ⊢;exact s b v e
theorem New.tup{p:Addr}{vs:List V}(s:Sub F H)(h:H p=some (.tup vs)):∃F',New F H F' H/\F' p=some (.tup vs):=by
 cases hf:F p with
 |some u =>
  have:=s p u hf
  rw[h] at this;cases this
  exact⟨F,.refl s,hf⟩
 |none =>
  refine⟨upd F p (.tup vs),⟨⟨λ_ _ e _ _ _=>e,λ_ e=>e,.of_gr (Gr.new hf),λb v e=>?_,λ_ z=>z.elim⟩,λb v e=>?_⟩,zAD⟩
  ·by_cases hb:b=p
   ·subst hb
    refine .inr (.inl λo e' hw=>?_)
    rw[h] at e';cases e';exact hw
   ·rw[zAE hb] at e;exact .inl (by rw[e];exact nofun)
  ·by_cases hb:b=p
   ·subst hb;rw[zAD] at e;rw[h];exact e
   ·rw[zAE hb] at e;exact s b v e
noncomputable def zZZ(k:List Int):D:=.tup (k.map D.int)
theorem RepT.keysAt:∀{vs:List (List Key×V)} {ds:List (List Int×D)},RepT K F vs ds->vs.map (·.1)=ds.map λkv=>kv.1.map Sum.inl
 |_,_,.nil=>rfl
 |_,_,.cons _ r=>by rw[List.map_cons,List.map_cons,RepT.keysAt r]
theorem RepK.keysAt:∀{vs:List (Key×V)} {ds:List (Key×D)},RepK K F vs ds->vs.map (·.1)=ds.map (·.1)
 |_,_,.nil=>rfl
 |_,_,.cons _ r=>by rw[List.map_cons,List.map_cons,RepK.keysAt r]
theorem zFR{a:Addr}{o:Obj}{kvs:List (Key×V)}{ds:List (Key×D)}(h:F a=some (.frz o (.dK kvs)))(r:RepK K F kvs ds):Walks K (ItK a o kvs) F (ds.map λkv=>zUA kv.1):=λi F1 H1 l s=>by
 have hf:F1 a=some (.frz o (.dK kvs)):=by
  rcases l a _ h with z|⟨z,_⟩|⟨_,_,_,z,_⟩
  ·exact z
  ·exact z.elim
  ·cases z
 have hh:=s _ _ hf
 have hl:(ds.map λkv=>zUA kv.1).length=kvs.length:=by rw[List.length_map,r.length]
 refine⟨λhi=>⟨by lia,hh⟩,λhi=>⟨by lia,hh⟩,λx H' d e ⟨e1,k,ex,ek⟩=>?_⟩
 subst e1 ex
 rw[r.keysAt,List.getElem?_map] at ek
 rw[List.getElem?_map] at e
 cases q:ds[i]? with
 |none=>rw[q] at e;cases e
 |some kv =>
  rw[q] at e ek
  cases e;cases ek
  exact⟨F1,.refl s,zP0 _⟩
theorem zFS{a:Addr}{o:Obj}{kvs:List (List Key×V)}{ds:List (List Int×D)}(h:F a=some (.frz o (.dT kvs)))(r:RepT K F kvs ds):Walks K (Itk a o kvs) F (ds.map λkv=>zZZ kv.1):=λi F1 H1 l s=>by
 have hf:F1 a=some (.frz o (.dT kvs)):=by
  rcases l a _ h with z|⟨z,_⟩|⟨_,_,_,z,_⟩
  ·exact z
  ·exact z.elim
  ·cases z
 have hh:=s _ _ hf
 have hl:(ds.map λkv=>zZZ kv.1).length=kvs.length:=by rw[List.length_map,r.length]
 refine⟨λhi=>⟨by lia,hh⟩,λhi=>⟨by lia,hh⟩,λx H' d e ⟨e1,p,k,ex,ek,ep⟩=>?_⟩
 subst e1 ex
 rw[r.keysAt,List.getElem?_map] at ek
 rw[List.getElem?_map] at e
 cases q:ds[i]? with
 |none=>rw[q] at e;cases e
 |some kv =>
  rw[q] at e ek
  cases e;cases ek
  obtain⟨F',n,hp⟩:=New.tup s ep
  refine⟨F',n,.tup hp ?_⟩
  rw[List.map_map]
  exact Reps.ints kv.1
noncomputable def zAX(g:G):GI:=λE=>(g E).bind λp=>match p.1 with
 |.lst ds=>.ok (ds,p.2)
 |.tup ds=>.ok (ds,p.2)
 |.dk kvs=>.ok (kvs.map λkv=>zUA kv.1,p.2)
 |.dt kvs=>.ok (kvs.map λkv=>zZZ kv.1,p.2)
 |_=>.bad
theorem zCI(h:VE X e ge):VI X tg e (zAX ge):=λpins s σ H R I q=>by
 obtain⟨τ,F,E,ds,E',S,hg,k⟩:=q
 obtain⟨p,e1,hg⟩:=Out.bind_ok hg
 split at hg
 ·rename_i ds' ed
  cases hg
  exact zVP h pins s σ H R I ⟨τ,F,E,ds,p.2,S,by unfold gSq;rw[e1];show(match p.1 with|.lst ds=>Out.ok (ds,p.2)|_=>.bad)=_;rw[ed],k⟩
 ·rename_i ds' ed
  cases hg
  exact zZA h pins s σ H R I ⟨τ,F,E,ds,p.2,S,by unfold gTp;rw[e1];show(match p.1 with|.tup ds=>Out.ok (ds,p.2)|_=>.bad)=_;rw[ed],k⟩
 ·rename_i kvs ed
  cases hg
  -- which of both it is shows when the value is there
  refine thn (h pins s σ H (λx H1=>∃F1,Stp (owA σ E) F H F1 H1 (owA σ p.2)/\Sim X.K X.H₀ τ F1 H1 σ p.2/\Rep X.K F1 x (.dk kvs)) I ⟨τ,F,E,p.1,p.2,S,e1,λv F1 H1 s1 S1 r1=>⟨F1,s1,S1,by rw[<-ed];exact r1⟩⟩) λv s1 ⟨x,H1,I1,r1,F1,st,S1,rr⟩=>?_
  cases rr with
  |dk hr r =>
   rename_i a kv
   (first|obtain rfl:=r1.vI|obtain rfl:=r1.vB|obtain rfl:=r1.vS|obtain rfl:=r1.vN|cases r1)
   rcases hr with hr|⟨o,hr⟩
   ·have ha:=S1.sub _ _ hr
    obtain⟨o,ho,I2⟩:=I1.freezeK ha
    obtain⟨es,ep,rw',z1,z2,z3⟩:=zDV (I1.hok a _ ha)
    obtain⟨o',q1,q2,q3⟩:=id rw'.ex
    rw[ho] at q1;(first|obtain rfl:=q1.vI|obtain rfl:=q1.vB|obtain rfl:=q1.vS|obtain rfl:=q1.vN|cases q1)
    have n:=New.froze (o:=o) S1.sub hr trivial
    refine zDM rw' λh' kk ki=>?_
    refine⟨s1.heap.objs.size,[s1.heap.objs.size],_,_,_,rfl,I2.kept (t':=s1.toks) kk,zDN a _ o kv es ep q3 z1,ki,λb hb=>?_,k _ _ _ (st.trans n.stp) (S1.new n) (zFR zAD (r.le n.1.le))⟩
    have e:b=s1.heap.objs.size:=by simpa using hb
    subst e
    exact I2.fpOk (Nat.le_refl _) (I2.hok.fresh (Nat.le_refl _))
   ·have ha:=S1.sub _ _ hr
    obtain⟨ho,hx⟩:=I1.hok a _ ha
    obtain⟨es,ep,rw',z1,z2,z3⟩:=zDV hx
    obtain⟨o',q1,q2,q3⟩:=id rw'.ex
    rw[ho] at q1;(first|obtain rfl:=q1.vI|obtain rfl:=q1.vB|obtain rfl:=q1.vS|obtain rfl:=q1.vN|cases q1)
    refine zDM rw' λh' kk ki=>?_
    refine⟨s1.heap.objs.size,[s1.heap.objs.size],_,_,_,rfl,I1.kept (t':=s1.toks) kk,zDN a _ o kv es ep q3 z1,ki,λb hb=>?_,k _ _ _ st S1 (zFR hr r)⟩
    have e:b=s1.heap.objs.size:=by simpa using hb
    subst e
    exact I1.fpOk (Nat.le_refl _) (I1.hok.fresh (Nat.le_refl _))
 ·rename_i kvs ed
  cases hg
  refine thn (h pins s σ H (λx H1=>∃F1,Stp (owA σ E) F H F1 H1 (owA σ p.2)/\Sim X.K X.H₀ τ F1 H1 σ p.2/\Rep X.K F1 x (.dt kvs)) I ⟨τ,F,E,p.1,p.2,S,e1,λv F1 H1 s1 S1 r1=>⟨F1,s1,S1,by rw[<-ed];exact r1⟩⟩) λv s1 ⟨x,H1,I1,r1,F1,st,S1,rr⟩=>?_
  cases rr with
  |dt hr r =>
   rename_i a kv
   (first|obtain rfl:=r1.vI|obtain rfl:=r1.vB|obtain rfl:=r1.vS|obtain rfl:=r1.vN|cases r1)
   rcases hr with hr|⟨o,hr⟩
   ·have ha:=S1.sub _ _ hr
    obtain⟨o,ho,I2⟩:=I1.freeze ha
    obtain⟨es,ep,rw',z1,z2,z3⟩:=zGP (I1.hok a _ ha)
    obtain⟨o',q1,q2,q3⟩:=id rw'.ex
    rw[ho] at q1;(first|obtain rfl:=q1.vI|obtain rfl:=q1.vB|obtain rfl:=q1.vS|obtain rfl:=q1.vN|cases q1)
    have n:=New.froze (o:=o) S1.sub hr trivial
    refine zDM rw' λh' kk ki=>?_
    refine⟨s1.heap.objs.size,[s1.heap.objs.size],_,_,_,rfl,I2.kept (t':=s1.toks) kk,zJD a _ o kv es ep q3 z1,ki,λb hb=>?_,k _ _ _ (st.trans n.stp) (S1.new n) (zFS zAD (r.le n.1.le))⟩
    have e:b=s1.heap.objs.size:=by simpa using hb
    subst e
    exact I2.fpOk (Nat.le_refl _) (I2.hok.fresh (Nat.le_refl _))
   ·have ha:=S1.sub _ _ hr
    obtain⟨ho,hx⟩:=I1.hok a _ ha
    obtain⟨es,ep,rw',z1,z2,z3⟩:=zGP hx
    obtain⟨o',q1,q2,q3⟩:=id rw'.ex
    rw[ho] at q1;(first|obtain rfl:=q1.vI|obtain rfl:=q1.vB|obtain rfl:=q1.vS|obtain rfl:=q1.vN|cases q1)
    refine zDM rw' λh' kk ki=>?_
    refine⟨s1.heap.objs.size,[s1.heap.objs.size],_,_,_,rfl,I1.kept (t':=s1.toks) kk,zJD a _ o kv es ep q3 z1,ki,λb hb=>?_,k _ _ _ st S1 (zFS hr r)⟩
    have e:b=s1.heap.objs.size:=by simpa using hb
    subst e
    exact I1.fpOk (Nat.le_refl _) (I1.hok.fresh (Nat.le_refl _))
 ·cases hg
end
theorem walk_v{l:PySem.W.OpenLaw}{q:Program}{loose:List Str}{XP:(Str->Option Value)->Heap->Prop}{YP:World->Heap->Prop}{d:DefRec}{K:Params->PySem.W.Frag}{lv:Nat}{m:Mr}(hn:l.most=some 63)(hdf:d.params.defaults=[])(hr:Room lv callerA)
  (hY:∀(w:World) (h:Heap),YP w h->(K w.params).In h) (tK:∀w:World,Tabs (K w.params) q) (hm:∀ns:List Int,ns.length<=63->∃b d',m [.val (.lst (ns.map D.int))]=.ok (b,.bl true,d'))
  (F:∀(w:World) (mg:Str->Option Value) (fa:Addr) (h:Heap),(K w.params).In h->h.Ns mainGlobals mg->mg d.name=some (.ref fa) ->
   ∃fd:FuncData,(∀(s:Shared) (u:Value),BindsTo s fd ⟨[u],[]⟩ [("script",u)])/\∀base:Heap,(K w.params).In base->base.Ns mainGlobals mg->CB (K w.params) base->FnOk l.prog w (K w.params) mg base CX0 lv fa fd ["script"] (spV (K w.params) 1 m)) :
  PySem.W.WalkO q loose XP YP l.row.toRowW d [] (λf vs=>PySem.call f vs) :=
 L2.walk_of (n:=63) (k:=lv) (x:="script") (CX:=λ_=>CX0) (sp:=λw=>spV (K w.params) 1 m) hn (by decide) hdf hr hY tK F (λw H a ns hl _ hS=>by
  obtain⟨b,d',e⟩:=hm ns hl
  refine⟨rfl,0,H,_,b,_,d',⟨λ_ _ z=>z,rfl,λi d0 z=>?_,λi t d0 z=>?_,λi j t u d1 d2 a' z=>?_⟩,λi t d0 z=>?_,e,λv F' H' st S r=>?_⟩
  ·cases i with
   |zero=>cases z;exact⟨_,rfl,.lst hS (Reps.ints ns)⟩
   |succ i=>simp at z
  ·cases i with
   |zero=>cases z
   |succ i=>simp at z
  ·cases i with
   |zero=>cases z
   |succ i=>simp at z
  ·cases i with
   |zero=>cases z
   |succ i=>simp at z
  ·cases b with
   |false=>(first|obtain rfl:=r.vI|obtain rfl:=r.vB|obtain rfl:=r.vS|obtain rfl:=r.vN|cases r);rfl
   |true=>obtain⟨_,_,_,ow,_⟩:=r;exact ow.elim) λ_ _ _ _ _ z=>z
end L2
namespace L2
open PySem
end L2
namespace L2
open PySem PySem.Spec PyProof.Rows
section
variable{X:Cx}{K:PySem.W.Frag}{H₀ F H F1 H1:Hp}{τ:Addr}{σ:St}{E:Ev}{acc:Addr}{k:Nat}{pos:Pos}{scope:Scope}{cl:List (Str×Addr)}{own caps:List Str}{js:List Nat}
noncomputable def zGZ(gk gv:G):GM:=λd E=>(gk E).bind λp=>(gv p.2).bind λq=>match d,zHZ p.1 with|.dk kvs,some k=>few kvs.length (.ok (.dk (zEE kvs k q.1),q.2))|_,_=>.bad
theorem zP9{gk gv:G}{N:St->Hp->Prop}(h:tMA K H₀ acc k (zGZ gk gv) σ H N):zO0 acc (tV K H₀ gk) (tV K H₀ gv) σ H N:=by
 obtain⟨τ,F,E,d,d',E',S,f,n,o,hg,k⟩:=h
 obtain⟨p,e1,hg⟩:=Out.bind_ok hg
 obtain⟨q,e2,hg⟩:=Out.bind_ok hg
 split at hg
 ·rename_i k' ek _ _
  obtain⟨hz,hg⟩:=zCH hg
  cases hg
  refine⟨τ,F,E,p.1,p.2,S,e1,λx F5 H5 s5 S5 r5=>?_⟩
  refine⟨τ,F5,p.2,q.1,q.2,S5,e2,λy F6 H6 s6 S6 r6=>?_⟩
  obtain⟨f6,m6,ys,h6,r2⟩:=zSF (s5.trans s6) f n o
  exact⟨ys,k',h6,zZX ek r5,by rw[r2.length];exact zDQ hz,k σ F6 _ (zZD (s5.trans s6)) (S6.off f6 m6) f6 m6 ⟨_,zAD,r2.put k' r6⟩ λ_ _=>rfl⟩
 ·cases hg
theorem zWL{kx vx tg iter:Expr}{ifs:List Expr}{pos:Pos}{gi:GI}{t:Tg}{tt:Ev->Out (Bool×Ev)}{gk gv:G}(n:CompNm X scope cl own caps js)(hc:X.calm=true)(hi:VI X tg iter gi)
  (hg:∀C s H fp,VG (zAT X scope cl (own++caps) C s H fp) tg t) (ht:∀C s H fp,VTs (zAT X scope cl (own++caps) C s H fp) ifs tt) (hk:∀C s H fp,VE (zAT X scope cl (own++caps) C s H fp) kx gk) (hv:∀C s H fp,VE (zAT X scope cl (own++caps) C s H fp) vx gv)
  (hlt:t.ltn own.length=true:=by rfl) (hj:js.Nodup:=by decide) (hs:∀x,foldedSetIterable iter X.env x=pure x:=by intro _;rfl):FE X (.DictComp kx vx [⟨tg,iter,ifs,0⟩] scope pos) (zFO gi own.length js (.dk []) t tt (zGZ gk gv)) :=
 (zR0 (g:=λH=>tG X.K H t) (tt:=λH=>tT X.K H tt) (tk:=λH=>tV X.K H gk) (tv:=λH=>tV X.K H gv) n hc hi hg ht hk hv hs).imp λσ H Q h =>
  zPO (λJ H2 q acc ha=>tWalkC.imp (λ_ _ _ z=>zP9 z) (λσ H=>zPM σ H) (λx σ H=>zPN x σ H) (q acc ha)) (zMI (o:=.dK []) (d0:=.dk []) (λF H a=>⟨[],zAD,.nil⟩) hlt hj h)
end
section
variable{X:Cx}{K:PySem.W.Frag}{H₀ F H F1 H1:Hp}{τ:Addr}{σ:St}{E:Ev}{e:Expr}{g:G}{xn:Str}{q apos cpos:Pos}
end
theorem zNS{pos:Pos}{a b:Int}{c cv:Value}(l:List Value)(h:TriplesOk l)(e:codeAmong pos (l++[rawInt a,rawInt b,c])=some cv):codeAmong pos l=some cv\/cv=c:=by
 fun_induction TriplesOk l with
 |case1 =>
  simp only[List.nil_append,codeAmong,rawInt] at e
  split at e
  ·cases e;exact .inr rfl
  ·cases e
 |case2 a' t b' u x rest ih =>
  simp only[List.cons_append,codeAmong] at e ⊢
  split at e
  ·rename_i hc;rw[if_pos hc];exact .inl e
  ·rename_i hc;rw[if_neg hc];exact ih h e
 |case3 l h1 h2=>exact h.elim
def LamStp(T:Addr)(q:Str)(H H':Hp):Prop:=H'=H\/∃ps ps' c' o,H T=some (.tbl q ps)/\H c'=none/\c'≠T/\H'=upd (upd H T (.tbl q ps')) c' (.frz o (.own c'))
section
variable{X:Cx}{pins:List (Addr×Obj)}{σ:List (Option V)}{H:Hp}{s:Shared}
theorem Inv.pinNew{o:Obj}{t':Nat}(I:Inv X pins σ H s)(hfr:o.isFreed=false)(hd:∀v,o.data≠.cell v):Inv X ((s.heap.objs.size,o)::pins) σ H { s with heap:=s.heap.push o,toks:=t' }:=by
 have I1:Inv X pins σ H { s with heap:=s.heap.push o,toks:=t' }:=I.un (t':=t') (Un.kept λb u e=>Heap.get?_push_of_some _ e) (I.hok.kept λb u e=>Heap.get?_push_of_some _ e)
 refine⟨I1.ok,I1.os,I1.bare,I1.base,I1.loc,I1.cell,I1.free,I1.freeC,λp hp=>?_,I1.hok,I1.len⟩
 rcases List.mem_append.mp hp with hp|hp
 ·exact I1.pin p (List.mem_append_left _ hp)
 ·rcases List.mem_cons.mp hp with rfl|hp
  ·exact⟨Heap.get?_push_size _ hfr,I.hok.fresh (Nat.le_refl _),Nat.ne_of_gt I.lt,I.nofs (Nat.le_refl _),hd⟩
  ·exact I1.pin p (List.mem_append_right _ hp)
theorem Inv.table{T c':Addr}{q:Str}{ps:Array Value}{pos:Pos}{h':Heap}{t':Nat}(I:Inv X pins σ H s)(hT:H T=some (.tbl q ps))(hx:Heap.ExtBut T s.heap h')(hge:s.heap.objs.size<=c')(hrec:h'.CodeRec (.ref c') q)(htb:h'.get? T=some (PySem.W.tabObj (ps++#[rawInt pos.line,rawInt pos.col,.ref c']))) :
  ∃o,Inv X pins σ (upd (upd H T (.tbl q (ps++#[rawInt pos.line,rawInt pos.col,.ref c']))) c' (.frz o (.own c'))) { s with heap:=h',toks:=t' }/\H c'=none/\c'≠T:=by
 obtain⟨c0,o,vs,t,e0,hoc,hd,hv⟩:=hrec
 cases e0
 obtain⟨e1,tr,al⟩:=I.hok T _ hT
 have hc0:H c'=none:=I.hok.fresh hge
 have hcT:c'≠T:=λz=>by rw[z] at hc0;rw[hc0] at hT;cases hT
 have other:∀b u,H b=some u->b≠T->upd (upd H T (.tbl q (ps++#[rawInt pos.line,rawInt pos.col,.ref c']))) c' (.frz o (.own c')) b=some u:=λb u e hb=>by
  rw[zAE (λz=>by rw[z,hc0] at e;cases e),zAE hb];exact e
 have hTT:upd (upd H T (.tbl q (ps++#[rawInt pos.line,rawInt pos.col,.ref c']))) c' (.frz o (.own c')) T=some (.tbl q (ps++#[rawInt pos.line,rawInt pos.col,.ref c'])):=by rw[zAE (Ne.symm hcT),zAD]
 have nT:∀b,H b=none->b≠T:=λb e z=>by rw[z,hT] at e;cases e
 have none':∀b u,s.heap.get? b=some u->H b=none->upd (upd H T (.tbl q (ps++#[rawInt pos.line,rawInt pos.col,.ref c']))) c' (.frz o (.own c')) b=none:=λb u e n=>by
  rw[zAE (Nat.ne_of_lt (Nat.lt_of_lt_of_le (Heap.lt_size e) hge)),zAE (nT b n)];exact n
 have nTt:∀b u,H b=some u->(∀ps,u≠.tbl q ps)->b≠T:=λb u e n z=>by rw[z,hT] at e;cases e;exact n _ rfl
 refine⟨o,I.un (t':=t') ⟨λb u e n _ _=>hx b u (nT b n) e,λb u e n _ _=>⟨u.slots,hx b u (nT b n) e⟩,λb u e n _=>none' b u e n,λb u e _=>?_,λb xs e=>other b _ e (nTt b _ e λ_ z=>by cases z),λb ob u e=>other b _ e (nTt b _ e λ_ z=>by cases z),λb t ps' e=>?_⟩ (λb u e=>?_),hc0,hcT⟩
 ·by_cases hb:b=T
  ·subst hb;exact⟨_,htb⟩
  ·exact⟨u,hx b u hb e⟩
 ·by_cases hb:b=T
  ·subst hb
   rw[hT] at e
   cases e
   exact⟨_,hTT⟩
  ·exact⟨#[],by rw[other b _ e hb];simp⟩
 ·by_cases hb:b=c'
  ·subst hb
   rw[zAD] at e
   cases e
   exact⟨hoc,⟨_,hoc⟩⟩
  ·by_cases hbT:b=T
   ·subst hbT
    rw[hTT] at e
    cases e
    refine⟨htb,by rw[Array.toList_append];exact TriplesOk_snoc _ _ _ _ tr,λp cv z=>?_⟩
    rw[Array.toList_append] at z
    rcases zNS _ tr z with z|z
    ·obtain⟨c2,o2,vs2,t2,r1,r2,r3⟩:=al p cv z
     exact⟨c2,o2,vs2,t2,r1,other c2 _ r2 (nTt c2 _ r2 λ_ z=>by cases z),r3⟩
    ·exact⟨c',o,vs,t,z,zAD,hd,hv⟩
   ·rw[zAE hb,zAE hbT] at e
    refine(I.hok b u e).stay (λd v hc z=>hx d v ?_ z) (λd z=>other d _ z (nTt d _ z λ_ y=>by cases y)) (λd xs z=>other d _ z (nTt d _ z λ_ y=>by cases y)) λd ob x z=>other d _ z (nTt d _ z λ_ y=>by cases y)
    rcases hc with rfl|hc
    ·exact hbT
    ·exact nTt d _ hc λ_ y=>by cases y
theorem zSZ{c T:Addr}{q:Str}{scope:Scope}{clos:List (Str×Addr)}{params:Arguments}{body:Expr}{pos:Pos}{Q:Value->Shared->Prop}{E:Value->Shared->Prop}{A:Around}
  (I:Inv X pins σ H s) (hcode:X.env.code=.ref c) (C:PySem.W.CodeHd X.base c T) (tb:TB X.K T q) (hq:X.env.qual++("<lambda>":Str)=q) (hcl:closureFor scope X.env=pure clos) (hdef:defaultsOf params X.env=([],[]))
  (h:∀(f c':Addr) (pm ctv:Value) (s':Shared) (H':Hp) (o:Obj),Inv X ((f,PySem.W.kla_obj "<lambda>" q params body scope clos pm c' ctv)::pins) σ H' s'->LamStp T q H H'->H' c'=some (.frz o (.own c'))->s'.heap.CodeRec (.ref c') q->s.heap.objs.size<=f->Q (.ref f) s') :
  wpAny (model X.prog X.w) A (eval (.Lambda params body scope pos) X.env) Q E s:=by
 refine PySem.W.kla_eval hdef ?_
 rw[hq]
 obtain⟨ps,hT⟩:=I.tab T q tb
 obtain⟨e1,tr,al⟩:=I.hok T _ hT
 have hg:=I.mod.glob.keeps I.bk
 have hgT:mainGlobals≠T:=λz=>by
  obtain⟨o,es,ep,e,hd,_⟩:=hg
  rw[z,e1] at e;cases e;cases hd
 have hbm:s.heap.BuiltinsAt X.mg T:=by
  obtain⟨bm,ob,b1,b2,b3,b4,b5,b6⟩:=I.mod.bmain
  have e3:=I.bk _ _ b3
  refine⟨bm,ob,b1,b2,λz=>?_,λz=>?_,e3,b4,b5,b6⟩
  ·obtain⟨o,es,ep,e,hd,_⟩:=hg
   rw[z,e] at e3;cases e3;rw[hd] at b6;cases b6
  ·rw[z,e1] at e3;cases e3;cases b4
 cases hf:codeAmong pos ps.toList with
 |none =>
  refine PySem.W.kla_makeFunction (mg:=X.mg) hcl I.ok.glob hg hcode (C.keeps I.bk) e1 tr hf hgT hbm λc' ctv h' tk hx hge hlt hrec htb=>?_
  obtain⟨o,I1,hc0,hcT⟩:=I.table (t':=tk) hT hx hge hrec htb
  have I2:=I1.pinNew (t':=tk) (o:=PySem.W.kla_obj "<lambda>" q params body scope clos ((X.mg "__name__").getD .none) c' ctv) rfl λv z=>by cases z
  exact h _ c' _ ctv _ _ o I2 (.inr ⟨_,_,c',o,hT,hc0,hcT,rfl⟩) zAD (hrec.push _) (Nat.le_trans hge (Nat.le_of_lt hlt))
 |some cv =>
  obtain⟨c',o,vs,t,rfl,r2,r3,r4⟩:=al _ _ hf
  refine PySem.W.kla_makeFunctionHit (mg:=X.mg) hcl I.ok.glob hg hcode (C.keeps I.bk) e1 tr hf hbm λctv h' tk hk hsz=>?_
  have I1:Inv X pins σ H { s with heap:=h',toks:=tk }:=I.un (t':=tk) (Un.kept hk) (I.hok.kept hk)
  have I2:=I1.pinNew (t':=tk) (o:=PySem.W.kla_obj "<lambda>" q params body scope clos ((X.mg "__name__").getD .none) c' ctv) rfl λv z=>by cases z
  exact h _ c' _ ctv _ _ o I2 (.inl rfl) r2 ⟨c',o,vs,t,rfl,(I2.hok _ _ r2).1,r3,r4⟩ hsz
end
noncomputable def zGD(X:Cx)(A:Around)(q:Str)(scope:Scope)(cl:List (Str×Addr))(nm:List Str)(f:Addr)(cd:Value)(s:Shared)(H:Hp):Cx where
 prog:=X.prog
 w:=X.w
 K:=X.K
 mg:=X.mg
 base:=X.base
 A:=A.deeper (PySem.W.envX q scope s.heap.objs.size f cd cl)
 N:=nm
 s₀:=s
 H₀:=H
 env:=PySem.W.envX q scope s.heap.objs.size f cd cl
 outer:=X.stack
 stack:=PySem.W.envX q scope s.heap.objs.size f cd cl::X.stack
 ex:=[]
 fn:=λ_=>false
 calm:=true
 pn:=[]
 xe:=λ_ _=>False
structure LamNm(X:Cx)(scope:Scope)(cl:List (Str×Addr))(p:Str)(caps:List Str)(js:List Nat):Prop where
 clos:closureFor scope X.env=pure cl
 kind:scope.kind=.function
 co:scope.isCoroutine=false
 gen:scope.isGenerator=false
 nocell:∀y∈scope.names,y.2≠.cell
 dom:∀y∈scope.names,y.2=.free->y.1∈caps
 nm:cl.map (·.1)=caps
 cells:∀p∈cl,X.env.cells.lookup p.1=some p.2
 slot:caps.map some=js.map λj=>X.N[j]?
 vis:∀x∈caps,X.env.kindOf x=some .cell\/X.env.kindOf x=some .free
 fr:∀x∈caps,scope.names.lookup x=some .free
 loc:scope.names.lookup p=some .local
section
variable{X:Cx}{scope:Scope}{cl:List (Str×Addr)}{p:Str}{caps:List Str}{js:List Nat}{pins:List (Addr×Obj)}{σ:St}{H:Hp}{s:Shared}{A:Around}{q:Str}{f:Addr}{cd:Value}
theorem LamNm.cl_of(n:LamNm X scope cl p caps js){x:Str}{c:Addr}(h:cl.lookup x=some c):X.env.cells.lookup x=some c:=n.cells _ (zCN h)
theorem LamNm.has(n:LamNm X scope cl p caps js){x:Str}(h:x∈caps):∃c,cl.lookup x=some c:=zCK (by rw[n.nm];exact h)
noncomputable def zUD(js:List Nat)(v:V)(σ:St):St:=some v::js.map λj=>(σ[j]?).getD none
theorem zQA{h₁:Heap}{tk:Nat}{v:V}{u:Value}(n:LamNm X scope cl p caps js)(I:Inv X pins σ H s)(hA:A.frames=some X.stack)(hh:A.handled=none)
  (hns:h₁.Ns s.heap.objs.size (λy=>[(p,u)].reverse.lookup y)) (old:∀b o,s.heap.get? b=some o->h₁.get? b=some o) (r:RelV v u) :
  Inv (zGD X A q scope cl (p::caps) f cd s H) [] (zUD js v σ) H { s with heap:=h₁,toks:=tk }:=by
 have hl:js.length=caps.length:=by
  have:=congrArg List.length n.slot
  simpa using this.symm
 refine⟨⟨I.tab,I.ok.mod,n.kind,rfl,rfl,Nat.le_refl _,λx y c h1 h2=>I.ok.inj x y c (n.cl_of h1) (n.cl_of h2),λx hx=>?_,(λx c h=>nomatch h),λ_=>hh,Around.frames_deeper hA,.inr ⟨rfl,rfl⟩,(λb hb=>nomatch hb),
   I.bs,Nat.le_trans I.ok.bsz I.sz,(λb o e hb=>nomatch hb),(λb hb=>nomatch hb),I.stack,I.stkFree⟩,
  rfl,I.bare,Un.kept old,⟨_,hns,λi x v' e1 e2 e3=>?_⟩,λx c e=>?_,I.hok.fresh (Nat.le_refl _),λx c e=>I.freeC x c (n.cl_of e),(λp hp=>nomatch hp),I.hok.kept old,?_⟩
 ·have hx:scope.names.lookup x=some .cell\/scope.names.lookup x=some .free:=hx
  rcases hx with h|h
  ·exact absurd rfl (n.nocell _ (zCN h))
  ·exact n.has (n.dom _ (zCN h) rfl)
 ·cases i with
  |zero =>
   have e1:some p=some x:=e1
   have e2:some (some v)=some (some v'):=e2
   cases e1;cases e2
   exact⟨u,r,.inl ⟨n.loc,by show List.lookup p [(p,u)]=some u;rw[List.lookup_cons,beq_self_eq_true]⟩⟩
  |succ i =>
   have e1:caps[i]?=some x:=e1
   have e2:(js.map λj=>(σ[j]?).getD none)[i]?=some (some v'):=e2
   rw[List.getElem?_map] at e2
   cases ej:js[i]? with
   |none=>rw[ej] at e2;cases e2
   |some j =>
    rw[ej] at e2
    have e2:some ((σ[j]?).getD none)=some (some v'):=e2
    have hj:X.N[j]?=some x:=by
     have q:=congrArg (λl=>l[i]?) n.slot
     simp only[List.getElem?_map,e1,ej,Option.map_some] at q
     exact(Option.some.inj q).symm
    have hv:σ[j]?=some (some v'):=by
     cases es:σ[j]? with
     |none=>rw[es] at e2;cases e2
     |some o=>rw[es] at e2;exact e2
    have hxc:x∈caps:=List.mem_of_getElem? e1
    obtain⟨m0,hn0,hl0⟩:=I.loc
    have vis:Vis X.env.scope x:=by
     rcases n.vis x hxc with k|k
     ·exact .inr (.inl k)
     ·exact .inr (.inr k)
    obtain⟨u,r,lk⟩:=hl0 j x v' hj hv vis
    refine⟨u,r,.inr ⟨.inr (n.fr x hxc),?_⟩⟩
    obtain⟨c,hc⟩:=n.has hxc
    refine⟨c,hc,?_⟩
    rcases lk with⟨k,_⟩|⟨_,c',hc',z⟩
    ·rcases n.vis x hxc with k'|k'
     ·rw[k] at k';cases k'
     ·rw[k] at k';cases k'
    ·rw[n.cl_of hc] at hc'
     cases hc'
     obtain⟨o,ho,hd⟩:=z
     exact⟨o,old _ _ ho,hd⟩
 ·obtain⟨v,o,ho,hd⟩:=I.cell x c (n.cl_of e)
  exact⟨v,o,old _ _ ho,hd⟩
 ·show(zUD js v σ).length=(p::caps).length
  unfold zUD
  rw[List.length_cons,List.length_cons,List.length_map,hl]
theorem zS0{params:Arguments}{body:Expr}{pm ctv:Value}{c':Addr}{v:V}{u:Value}{t:TE}{Q:VK}(n:LamNm X scope cl p caps js)(I:Inv X pins σ H s)(hA:A.frames=some X.stack)(hr:Room 1 A)
  (ho:s.heap.get? f=some (PySem.W.kla_obj "<lambda>" q params body scope cl pm c' ctv)) (hcd:s.heap.CodeRec (.ref c') q) (hbind:bindArgs (PySem.W.kla_fn "<lambda>" q params body scope cl pm (.ref c') ctv) ⟨[u],[]⟩=pure [(p,u)])
  (hb:PE (zGD X A q scope cl (p::caps) f (.ref c') s H) body t) (r:RelV v u) (hq:t (zUD js v σ) H Q) :
  codeAny (model X.prog X.w) A (.call (.ref f) ⟨[u],[]⟩) (λr s'=>∃u',r=.ok (.ret u')/\CE X.stack X.prog X.w H s Q u' s') s:=by
 refine PySem.W.kla_callFunE (by have:=hr.dp;lia) ho rfl n.co n.gen rfl hcd ?_
 rw[hbind]
 refine wpAny_pure ?_
 refine wpAny_newFunctionEnv n.nocell (λy hy=>by rw[List.mem_singleton.mp hy];exact n.loc) (λh₁ hns hsb=>⟨I.nolimit.fresh _ hsb,?_⟩) n.kind
 have old:∀b o,s.heap.get? b=some o->h₁.get? b=some o:=λb o e=>hsb.extBut b o (Nat.ne_of_lt (Heap.lt_size e)) (Heap.get?_push_of_some _ e)
 have I1:=zQA (q:=q) (f:=f) (cd:=.ref c') (tk:=s.toks+1) n I hA hr.hd hns old r
 show codeAny _ _ (.expr body (PySem.W.envX q scope s.heap.objs.size f (.ref c') cl)) _ _
 refine PySem.W.kla_codeExpr (wpAny_mono (hb [] _ _ _ _ I1 hq) (λu' s' h=>?_) λe s' h=>h.elim)
 obtain⟨v',H',J,rv,qv⟩:=h
 exact⟨u',rfl,v',H',J.os,J.bare,J.base,J.hok,rv,qv⟩
end
end L2
namespace L2
open PySem PySem.Spec PyProof.Rows PySem.W
theorem Paired.perm{α β:Type}{F:α->β->Prop}{us ws:List β}(p:ws.Perm us):∀{xs:List α},Paired F xs us->∃ys,ys.Perm xs/\Paired F ys ws:=by
 induction p with
 |nil=>intro xs r;cases r;exact⟨[],List.Perm.refl _,.nil⟩
 |cons a _ ih =>
  intro xs r
  cases r with
  |cons h t =>
   obtain⟨ys,q,r'⟩:=ih t
   exact⟨_::ys,q.cons _,.cons h r'⟩
 |swap a b l =>
  intro xs r
  cases r with
  |cons h t =>
   cases t with
   |cons h' t'=>exact⟨_::_::_,List.Perm.swap _ _ _,.cons h' (.cons h t')⟩
 |trans _ _ ih1 ih2 =>
  intro xs r
  obtain⟨ys,q,r'⟩:=ih2 r
  obtain⟨zs,q2,r2⟩:=ih1 r'
  exact⟨zs,q2.trans q,r2⟩
theorem Paired.zipK{ys:List V}{us:List Value}:∀{kz:List Int},Vals ys us->Paired (λ(a:Int×V) (b:Int×Value)=>a.1=b.1/\RelV a.2 b.2) (kz.zip ys) (kz.zip us):=by
 intro kz r
 induction kz generalizing ys us with
 |nil=>exact .nil
 |cons k kz ih=>cases r with
  |nil=>exact .nil
  |cons h t=>exact .cons ⟨rfl,h⟩ (ih t)
theorem Paired.snds:∀{a:List (Int×V)} {b:List (Int×Value)},Paired (λ(a:Int×V) (b:Int×Value)=>a.1=b.1/\RelV a.2 b.2) a b->Vals (a.map Prod.snd) (b.map Prod.snd)/\a.map Prod.fst=b.map Prod.fst
 |_,_,.nil=>⟨.nil,rfl⟩
 |_,_,.cons h t=>by
  obtain⟨h1,h2⟩:=Paired.snds t
  exact⟨.cons h.2 h1,by rw[List.map_cons,List.map_cons,h.1,h2]⟩
def zE4(t:Hp->TE)(js:List Nat)(σ:St):List V->List Int->Hp->(List Int->Hp->Prop)->Prop
 |[],acc,H,R=>R acc H
 |y::ys,acc,H,R=>t H (zUD js y σ) H λv H'=>∃k,v=.int k/\zE4 t js σ ys (acc++[k]) H' R
theorem zZ0{h:Heap}{L:Addr}{m m':Str->Option Value}(a:h.Ns L m)(b:h.Ns L m'):m=m':=by
 obtain⟨o,es,ep,e,d,_,f⟩:=a
 obtain⟨o',es',ep',e',d',_,f'⟩:=b
 rw[e] at e';cases e'
 rw[d] at d';cases d'
 funext x
 rw[<-f x,f' x]
section
variable{X:Cx}{pins:List (Addr×Obj)}{σ:St}{H:Hp}{s:Shared}
structure Mine(X:Cx)(pins:List (Addr×Obj))(b:Addr):Prop where
 loc:b≠X.env.locals
 fs:b∉X.fs
 ab:X.s₀.heap.objs.size<=b
 bs:X.base.get? b=none
 cel:∀x c,X.env.cells.lookup x=some c->c≠b
 pin:∀p∈X.pn++pins,p.1≠b
theorem Inv.mine(I:Inv X pins σ H s){b:Addr}(h:s.heap.objs.size<=b):Mine X pins b where
 loc:=Nat.ne_of_gt (Nat.lt_of_lt_of_le I.lt h)
 fs:=I.nofs h
 ab:=Nat.le_trans I.sz h
 bs:=Heap.get?_none_of_le (Nat.le_trans (Nat.le_trans I.ok.bsz I.sz) h)
 cel:=λx c e z=>by
  obtain⟨v,o,ho,_⟩:=I.cell x c e
  subst z
  exact Nat.lt_irrefl _ (Nat.lt_of_lt_of_le (Heap.lt_size ho) h)
 pin:=λp hp z=>by
  subst z
  exact Nat.lt_irrefl _ (Nat.lt_of_lt_of_le (Heap.lt_size (I.pin p hp).1) h)
theorem Inv.stkNo(I:Inv X pins σ H s){b:Addr}(m:Mine X pins b):b∉frs X.stack:=λhb=>by
 rcases List.mem_cons.mp (I.stkSub b hb) with z|z
 ·exact m.loc z
 ·exact m.fs z
theorem Inv.unpin{p:Addr×Obj}(I:Inv X (p::pins) σ H s):Inv X pins σ H s :=
 ⟨I.ok,I.os,I.bare,I.base,I.loc,I.cell,I.free,I.freeC,λq hq=>I.pin q ((List.mem_append.mp hq).elim (List.mem_append_left _) λz=>List.mem_append_right _ (List.mem_cons_of_mem _ z)),I.hok,I.len⟩
end
def zQB(Q:VK)(ys:List V):List Int->Hp->Prop:=λkz H=>∀ps:List (Int×V),ps.Perm (kz.zip ys)->(ps.Pairwise λa b=>a.1<=b.1)->∀D,H D=none->Q (.ref D) (upd H D (.lst (ps.map Prod.snd)))
section
variable{X:Cx}{pins:List (Addr×Obj)}{σ:St}{H:Hp}{s:Shared}{scope:Scope}{cl:List (Str×Addr)}{p:Str}{caps:List Str}{js:List Nat}{A:Around}{q:Str}{f:Addr}{params:Arguments}{body:Expr}{pm ctv:Value}{c':Addr}{t:Hp->TE}{o:Obj}
theorem zQC{a kS:Addr}{kA:Array Value}{e e1:Nat}{kz:List Int}{ys:List V}{its:List Value}{Q:VK}{P:PySem.Fin->Shared->Prop}{E:Value->Shared->Prop}
  (I:Inv X pins σ H s) (ma:Mine X pins a) (mk:Mine X pins kS) (hka:kS≠a) (ea:s.heap.get? a=some (seqObj "list" #[] e1)) (ek:s.heap.get? kS=some (seqObj "list" kA e)) (na:H a=none) (nk:H kS=none)
  (hk:IntsAre kA.toList kz) (hlen:kz.length=its.length) (h64:its.length<64) (rv:Vals ys its)
  (hq:zQB Q ys kz H)
  (hP:∀s',EP X pins σ Q (.ref a) s'->P (.done (.ret .none)) s') :
  wpAny (model X.prog X.w) A (ksk_end a false its.toArray e1 (.ref kS) kA) P E s:=by
 obtain⟨m,F⟩:=I.fr
 have N:News X.base X.env.locals s.heap ((zFE X.base s.heap X.env.locals).filter (λp=>decide (p.1≠kS/\p.1≠a))++[(kS,seqObj "list" kA e),(a,seqObj "list" #[] e1)]):=λp hp=>by
  rcases List.mem_append.mp hp with hp|hp
  ·exact zRD p (List.mem_filter.mp hp).1
  ·rcases List.mem_cons.mp hp with rfl|hp
   ·exact⟨ek,mk.loc,mk.bs⟩
   ·rw[List.mem_singleton.mp hp];exact⟨ea,ma.loc,ma.bs⟩
 refine ksk_end_ (b:=false) F N hka (λp hp=>(of_decide_eq_true (List.mem_filter.mp hp).2).1) (λp hp=>(of_decide_eq_true (List.mem_filter.mp hp).2).2) hk hlen h64 λh' tk out c F' N' ko=>hP _ ?_
 obtain⟨ps,pp,eo,pw⟩:=ko
 obtain⟨qs,qp,qr⟩:=Paired.perm pp (Paired.zipK (kz:=kz) rv)
 obtain⟨r1,r2⟩:=Paired.snds qr
 have kept:∀b ob,b≠X.env.locals->b≠kS->b≠a->s.heap.get? b=some ob->h'.get? b=some ob:=λb ob h1 h2 h3 eb=>by
  cases g:X.base.get? b with
  |some u =>
   have:=I.bk b u g
   rw[eb] at this;cases this
   exact F'.keep b _ g
  |none=>exact(N' (b,ob) (List.mem_cons_of_mem _ (List.mem_filter.mpr ⟨zKQ h1 g eb,decide_eq_true ⟨h2,h3⟩⟩))).1
 have hL:∃oL,h'.get? X.env.locals=some oL:=let ⟨oL,_,_,eL,_⟩:=F'.ns;⟨oL,eL⟩
 have tne:∀b u,H b=some u->b≠X.env.locals/\b≠kS/\b≠a:=λb u eb=>⟨λz=>(by rw[z,I.free] at eb;cases eb),λz=>(by rw[z,nk] at eb;cases eb),λz=>(by rw[z,na] at eb;cases eb)⟩
 have up:∀b u,H b=some u->upd H a (.lst (qs.map Prod.snd)) b=some u:=λb u eb=>by rw[zAE (tne b u eb).2.2];exact eb
 have hz:(qs.map Prod.snd).length<64:=by
  rw[List.length_map,qp.length_eq,List.length_zip,hlen,rv.length]
  lia
 refine⟨.ref a,upd H a (.lst (qs.map Prod.snd)),I.step (g':=s.gens) (d':=s.drawn) (t':=tk) (ch:=[kS,a]) (λb hb=>?_) (λb ob h1 _ hc eb _=>kept b ob h1 (λz=>hc (by simp[z])) (λz=>hc (by simp[z])) eb)
  (λb ob h1 _ hc eb _=>⟨ob.slots,kept b ob h1 (λz=>hc (by simp[z])) (λz=>hc (by simp[z])) eb⟩) (λb ob hc eb n=>by rw[zAE (λz=>hc (by simp[z]))];exact n) (λb ob hc eb=>?_)
  (λb xs eb=>up b _ eb) (λb ob u eb=>up b _ eb) (λb t ps eb=>⟨#[],by rw[up b _ eb];simp⟩) (λm0 hm0=>by rw[zZ0 hm0 F.ns];exact F'.ns) (λb u eb=>?_) I.bare,rfl,hq qs qp ?_ a na⟩
 ·rcases List.mem_cons.mp hb with rfl|hb
  ·exact⟨.inr mk.ab,mk.loc,mk.cel,mk.pin⟩
  ·rw[List.mem_singleton.mp hb]
   exact⟨.inr ma.ab,ma.loc,ma.cel,ma.pin⟩
 ·by_cases h1:b=X.env.locals
  ·subst h1;exact hL
  ·exact⟨ob,kept b ob h1 (λz=>hc (by simp[z])) (λz=>hc (by simp[z])) eb⟩
 ·by_cases hb:b=a
  ·subst hb
   rw[zAD] at eb
   cases eb
   refine⟨by rw[sizeLine_eq];lia,out.toList,c,by rw[eo];exact r1,?_⟩
   have:=(N' (b,seqObj "list" out c) (.head _)).1
   simpa using this
  ·rw[zAE hb] at eb
   refine(I.hok b u eb).stay (λd v hc z=>?_) (λd z=>up d _ z) (λd xs z=>up d _ z) λd ob x z=>up d _ z
   rcases hc with rfl|hc
   ·obtain⟨h1,h2,h3⟩:=tne d u eb
    exact kept d v h1 h2 h3 z
   ·obtain⟨h1,h2,h3⟩:=tne d _ hc
    exact kept d v h1 h2 h3 z
 ·have:(qs.map Prod.fst).Pairwise (·<=·):=by
   rw[r2,List.pairwise_map]
   exact pw.imp λh=>by simpa using h
  rw[List.pairwise_map] at this
  exact this
end
section
variable{X:Cx}{pins:List (Addr×Obj)}{σ:St}{H:Hp}{s:Shared}{scope:Scope}{cl:List (Str×Addr)}{p:Str}{caps:List Str}{js:List Nat}{A:Around}{q:Str}{f:Addr}{params:Arguments}{body:Expr}{pm ctv:Value}{c':Addr}{t:Hp->TE}{o:Obj}
theorem zNT{a kS:Addr}{e1:Nat}{ys:List V}{its:List Value}{Q:VK}{P:PySem.Fin->Shared->Prop}{E:Value->Shared->Prop}{vs:Array Value}{tq:Tok}(n:LamNm X scope cl p caps js)
  (I:Inv X ((f,kla_obj "<lambda>" q params body scope cl pm c' ctv)::pins) σ H s) (ma:Mine X ((f,kla_obj "<lambda>" q params body scope cl pm c' ctv)::pins) a) (mk:Mine X ((f,kla_obj "<lambda>" q params body scope cl pm c' ctv)::pins) kS) (hka:kS≠a)
  (ea:s.heap.get? a=some (seqObj "list" #[] e1)) (ek:s.heap.get? kS=some (seqObj "list" #[] 0)) (na:H a=none) (nk:H kS=none) (hc:H c'=some (.frz o (.own c'))) (ho:o.data=.fields vs) (hv:vs[1]?=some (.str q tq))
  (h64:its.length<64) (rv:Vals ys its) (hA:A.frames=some X.stack) (hr:Room 1 A) (hbind:∀u,bindArgs (kla_fn "<lambda>" q params body scope cl pm (.ref c') ctv) ⟨[u],[]⟩=pure [(p,u)])
  (hb:∀s H,PE (zGD X A q scope cl (p::caps) f (.ref c') s H) body (t H))
  (hkeys:zE4 t js σ ys [] H (zQB Q ys))
  (hP:∀s',EP X pins σ Q (.ref a) s'->P (.done (.ret .none)) s') :
  wpAny (model X.prog X.w) A (ksk_rest a (.ref f) false its.toArray e1 (.ref kS)) P E s:=by
 unfold ksk_rest
 refine wpAny_bind (wpAny_rule ?_)
 first
  |rw[List.forIn_toArray]
  |(rw[<-Array.forIn_toList];simp only[List.toList_toArray])
  |rw[<-Array.forIn_toList]
 refine wpAny_bind (ksk_fold (λi s'=>∃kA e H' acc,Inv X ((f,kla_obj "<lambda>" q params body scope cl pm c' ctv)::pins) σ H' s'/\s'.heap.get? a=some (seqObj "list" #[] e1)/\s'.heap.get? kS=some (seqObj "list" kA e)/\H' a=none/\H' kS=none /\
  IntsAre kA.toList acc/\acc.length=i/\zE4 t js σ (ys.drop i) acc H' (zQB Q ys)/\H' c'=some (.frz o (.own c'))) its 0 s
  ⟨#[],0,H,[],I,ea,ek,na,nk,by simpa using IntsAre.nil,rfl,hkeys,hc⟩ ?step ?done)
 case step =>
  rintro j x s' hx ⟨kA,e,H',acc,I',ea',ek',na',nk',hk,hlen,hks,hc'⟩
  simp only[Nat.zero_add] at hlen hks ⊢
  have hj:j<its.length:=(List.getElem?_eq_some_iff.mp hx).1
  have hy:j<ys.length:=by rw[rv.length];exact hj
  obtain⟨u,hu,r⟩:=rv.get (List.getElem?_eq_getElem hy)
  rw[hx] at hu
  cases hu
  rw[List.drop_eq_getElem_cons hy] at hks
  have hcd:s'.heap.CodeRec (.ref c') q:=⟨c',o,vs,tq,rfl,(I'.hok _ _ hc').1,ho,hv⟩
  have hfo:=(I'.pin _ (List.mem_append_right _ (.head _))).1
  have hcall:wpAny (model X.prog X.w) A (call (.ref f) [x]) (λu' s''=>CE X.stack X.prog X.w H' s' (λv H''=>∃k,v=.int k/\zE4 t js σ (ys.drop (j+1)) (acc++[k]) H'' (zQB Q ys)) u' s'') (λ_ _=>False) s' :=
   wpAny_call (codeAny_mono (zS0 n I' hA hr hfo hcd (hbind x) (hb s' H') r hks) λr s'' h=>by
    obtain⟨u',rfl,ce⟩:=h
    exact ce)
  refine wpAny_bind (wpAny_attempt (wpAny_mono hcall (λu' s'' he=>?_) λ_ _ hF=>hF.elim))
  obtain⟨v,H'',os,bare,un,hok,rv',k,rfl,hks2⟩:=he
  obtain⟨t2,rfl⟩:∃t2,u'=.int k t2:=rv'
  obtain⟨hh,g,d,tk2,os'⟩:=s''
  obtain rfl:os'=s'.os:=os
  have I2:=I'.call (h':=hh) (g':=g) (d':=d) (t':=tk2) (ch:=[]) un hok bare (λb z=>absurd z (by simp))
  have ek2:hh.get? kS=some (seqObj "list" kA e):=un.keep kS _ ek' nk' (I'.stkNo mk) (by simp)
  have ea2:hh.get? a=some (seqObj "list" #[] e1):=un.keep a _ ea' na' (I'.stkNo ma) (by simp)
  have nk2:=un.free kS _ ek' nk' (by simp)
  have na2:=un.free a _ ea' na' (by simp)
  have hc2:=un.frzs _ _ _ hc'
  have hz:kA.size<=its.length:=by
   have h1:=hk.length
   rw[Array.length_toList] at h1
   lia
  try dsimp only
  have s1:=Heap.SameBut.update hh kS (Obj.mapSeq (·.push (.int k t2)))
  obtain⟨e2,he2⟩:∃c2,(hh.update kS (Obj.mapSeq (·.push (.int k t2)))).get? kS=some (seqObj "list" (kA.push (.int k t2)) c2):=⟨_,get?_update_seq ek2 (·.push (.int k t2))⟩
  refine wpAny_bind (listUpdate_at ek2 rfl ?_ (by rw[sizeLine_eq];lia) (Nat.le_trans (Nat.le_of_eq (Array.size_push ..)) (by rw[sizeLine_eq];lia)))
  have I3:=I2.turned (h':=hh.update kS (Obj.mapSeq (·.push (.int k t2)))) (t':=tk2) (it:=kS) (λb ob hb eb=>(s1.2 b hb).trans eb) nk2 mk.loc (.inr mk.ab) mk.cel mk.pin
  have el:(kA.push (Value.int k t2)).toList=kA.toList++[Value.int k t2]:=by simp
  exact wpAny_pure ⟨rfl,kA.push (.int k t2),e2,H'',acc++[k],I3,(s1.2 a hka.symm).trans ea2,he2,na2,nk2,by rw[el];exact ksk_snoc hk,by rw[List.length_append,hlen];rfl,hks2,hc2⟩
 case done =>
  rintro s' ⟨kA,e,H',acc,I',ea',ek',na',nk',hk,hlen,hks,hc'⟩
  rw[Nat.zero_add] at hlen hks
  rw[List.drop_eq_nil_of_le (by rw[rv.length];exact Nat.le_refl _)] at hks
  try dsimp only
  refine wpAny_bind (listItems_at ek' rfl ?_)
  refine zQC I'.unpin ⟨ma.loc,ma.fs,ma.ab,ma.bs,ma.cel,λp hp=>ma.pin p ?_⟩ ⟨mk.loc,mk.fs,mk.ab,mk.bs,mk.cel,λp hp=>mk.pin p ?_⟩ hka ea' ek' na' nk' hk hlen h64 rv hks hP
  all_goals exact(List.mem_append.mp hp).elim (List.mem_append_left _) λz=>List.mem_append_right _ (List.mem_cons_of_mem _ z)
end
section
variable{X:Cx}{pins:List (Addr×Obj)}{σ:St}{H:Hp}{s:Shared}{scope:Scope}{cl:List (Str×Addr)}{p:Str}{caps:List Str}{js:List Nat}{q:Str}{f:Addr}{params:Arguments}{body:Expr}{pm ctv:Value}{c':Addr}{t:Hp->TE}{o:Obj}
theorem zQD{l:Addr}{ys:List V}{Q:VK}{vs:Array Value}{tq:Tok}(n:LamNm X scope cl p caps js)
  (I:Inv X ((f,kla_obj "<lambda>" q params body scope cl pm c' ctv)::pins) σ H s) (hc:H c'=some (.frz o (.own c'))) (ho:o.data=.fields vs) (hv:vs[1]?=some (.str q tq))
  (hl:SqL X.K H l ys) (h64:ys.length<64) (hr:Room 3 X.A) (hbind:∀u,bindArgs (kla_fn "<lambda>" q params body scope cl pm (.ref c') ctv) ⟨[u],[]⟩=pure [(p,u)])
  (hb:∀s H,PE (zGD X X.A.in1.in1 q scope cl (p::caps) f (.ref c') s H) body (t H)) (hkeys:zE4 t js σ ys [] H (zQB Q ys)) :
  wpAny (model X.prog X.w) X.A (call (.builtin "sorted") [.ref l] [(Str.ofString "key",.ref f)]) (EP X pins σ Q) X.xe s:=by
 obtain⟨its,rv,pl,z⟩:=I.list hl
 have hlen:=rv.length
 refine call_function_entry_kw kind_sorted plain_sorted entry_sorted (ksk_s1 _ _) ?_
 unfold Builtin.«sorted»
 refine wpAny_bind (m:=checkCount "sorted" 1 1 _) (wpAny_pure ?_)
 refine wpAny_bind (collect_list pl.isList ?_ (by rw[sizeLine_eq];lia))
 refine wpAny_bind (wpAny_newList ?_ (by rw[sizeLine_eq];lia))
 have hsz:((s.heap.push (seqObj "list" #[] 0)).update s.heap.objs.size (Obj.mapSeq (·++its.toArray))).objs.size=s.heap.objs.size+1:=by
  rw[Heap.size_update,size_push']
 have hoL:(((s.heap.push (seqObj "list" #[] 0)).update s.heap.objs.size (Obj.mapSeq (·++its.toArray))).push (seqObj "list" its.toArray 0)).get? (s.heap.objs.size+1)=some (seqObj "list" its.toArray 0):=by
  rw[<-hsz];exact Heap.get?_push_size _ rfl
 have keep:∀b o,s.heap.get? b=some o->(((s.heap.push (seqObj "list" #[] 0)).update s.heap.objs.size (Obj.mapSeq (·++its.toArray))).push (seqObj "list" its.toArray 0)).get? b=some o:=λb o q=>by
  have hlt:b<s.heap.objs.size:=Heap.lt_size q
  rw[Heap.get?_push_ne _ _ _ (by rw[hsz];exact Nat.ne_of_lt (Nat.lt_succ_of_lt hlt)),Heap.get?_update_ne _ _ _ _ (Nat.ne_of_lt hlt),Heap.get?_push_ne _ _ _ (Nat.ne_of_lt hlt)]
  exact q
 have hs2:(((s.heap.push (seqObj "list" #[] 0)).update s.heap.objs.size (Obj.mapSeq (·++its.toArray))).push (seqObj "list" its.toArray 0)).objs.size=s.heap.objs.size+2:=by rw[size_push',hsz]
 show wpAny _ _ _ _ _ { s with heap:=((s.heap.push (seqObj "list" #[] 0)).update s.heap.objs.size (Obj.mapSeq (·++its.toArray))).push (seqObj "list" its.toArray 0) }
 rw[hsz]
 generalize hg0:((s.heap.push (seqObj "list" #[] 0)).update s.heap.objs.size (Obj.mapSeq (·++its.toArray))).push (seqObj "list" its.toArray 0)=g0 at hoL keep hs2
 refine wpAny_bind (wpAny_holding (wpAny_call_entry_kw slot_list_sort ⟨_,hoL,rfl⟩ entry_list_sort ?body (ksk_l1 _ _)))
 case body =>
  show wpAny (model X.prog X.w) X.A.in1.in1 (Builtin.«list.sort» ⟨[.ref (s.heap.objs.size+1)],[(Str.ofString "key",.ref f)]⟩) _ _ _
  rw[ksk_t1]
  have s1:=Heap.SameBut.update g0 (s.heap.objs.size+1) (Obj.mapSeq λ_=>(#[]:Array Value))
  obtain⟨e1,ho1⟩:∃e1,(g0.update (s.heap.objs.size+1) (Obj.mapSeq λ_=>(#[]:Array Value))).get? (s.heap.objs.size+1)=some (seqObj "list" #[] e1):=⟨_,get?_update_seq hoL λ_=>#[]⟩
  unfold ksk_tree
  refine wpAny_bind (listItems_at hoL rfl ?_)
  refine wpAny_bind (listUpdate_at hoL rfl ?_ (by rw[List.size_toArray,sizeLine_eq];lia) (Nat.zero_le _))
  refine wpAny_bind (seqEpoch_at ho1 rfl ?_)
  refine wpAny_bind (wpAny_newTuple ?_ (by show its.length<=_;rw[sizeLine_eq];lia))
  refine wpAny_bind (wpAny_newList ?_ (Nat.zero_le _))
  refine wpAny_holding ?_
  have hg1:(g0.update (s.heap.objs.size+1) (Obj.mapSeq λ_=>(#[]:Array Value))).objs.size=s.heap.objs.size+2:=by rw[Heap.size_update,hs2]
  have keep2:∀b o,s.heap.get? b=some o->(((g0.update (s.heap.objs.size+1) (Obj.mapSeq λ_=>(#[]:Array Value))).push (seqObj "tuple" its.toArray 0)).push (seqObj "list" #[] 0)).get? b=some o:=λb o e =>
   Heap.get?_push_of_some _ (Heap.get?_push_of_some _ ((s1.2 b (Nat.ne_of_lt (Nat.lt_succ_of_lt (Heap.lt_size e)))).trans (keep b o e)))
  have hkS:((g0.update (s.heap.objs.size+1) (Obj.mapSeq λ_=>(#[]:Array Value))).push (seqObj "tuple" its.toArray 0)).objs.size=s.heap.objs.size+3:=by rw[size_push',hg1]
  have I2:Inv X ((f,kla_obj "<lambda>" q params body scope cl pm c' ctv)::pins) σ H { s with heap:=((g0.update (s.heap.objs.size+1) (Obj.mapSeq λ_=>(#[]:Array Value))).push (seqObj "tuple" its.toArray 0)).push (seqObj "list" #[] 0) } :=
   I.un (t':=s.toks) (Un.kept keep2) (I.hok.kept keep2)
  refine zNT (s:={ s with heap:=((g0.update (s.heap.objs.size+1) (Obj.mapSeq λ_=>(#[]:Array Value))).push (seqObj "tuple" its.toArray 0)).push (seqObj "list" #[] 0) }) (a:=s.heap.objs.size+1) (kS:=((g0.update (s.heap.objs.size+1) (Obj.mapSeq λ_=>(#[]:Array Value))).push (seqObj "tuple" its.toArray 0)).objs.size) n I2 (I.mine (Nat.le_succ _)) (I.mine (by rw[hkS];exact Nat.le_add_right _ 3)) (by rw[hkS];intro z;have:s.heap.objs.size+3=s.heap.objs.size+1:=z;lia)
   (Heap.get?_push_of_some _ (Heap.get?_push_of_some _ ho1)) (Heap.get?_push_size _ rfl) (I.hok.fresh (Nat.le_succ _)) (I.hok.fresh (by rw[hkS];exact Nat.le_add_right _ 3)) hc ho hv (by rw[<-hlen];exact h64) rv I.ok.frames hr.in1.in1 hbind hb hkeys λs' h=>⟨_,rfl,?_⟩
  exact wpAny_pure ⟨_,rfl,h⟩
end
theorem LamStp.rd{T:Addr}{q:Str}{H H':Hp}(st:LamStp T q H H'){a:Addr}{u:HO}(h:H a=some u)(hu:∀ps,u≠.tbl q ps):H' a=some u:=by
 rcases st with rfl|⟨ps,ps',c',o,hT,hc,hcT,rfl⟩
 ·exact h
 ·rw[zAE (λz=>by rw[z,hc] at h;cases h),zAE (λz=>by rw[z,hT] at h;cases h;exact hu _ rfl)]
  exact h
theorem LamStp.sq{T:Addr}{q:Str}{H H':Hp}{K:Frag}{l:Addr}{ys:List V}(st:LamStp T q H H')(h:SqL K H l ys):SqL K H' l ys :=
 h.imp (λz=>z.imp (λz=>st.rd z λ_ y=>by cases y) λ⟨o,z⟩=>⟨o,st.rd z λ_ y=>by cases y⟩) id
def zUE(K:Frag)(T:Addr)(q:Str)(tl:TE)(t:Hp->TE)(js:List Nat):TE:=λσ H Q=>tl σ H λx H1=>∃l ys,x=.ref l/\SqL K H1 l ys/\ys.length<64/\∀H2,LamStp T q H1 H2->zE4 t js σ ys [] H2 (zQB Q ys)
section
variable{X:Cx}{scope:Scope}{cl:List (Str×Addr)}{p:Str}{caps:List Str}{js:List Nat}{q:Str}{params:Arguments}{body:Expr}{t:Hp->TE}{c T:Addr}{l:Expr}{tl:TE}{p1 pos lpos kpos:Pos}
theorem zMO(hm:X.mg "sorted"=none)(hl:PE X l tl)(n:LamNm X scope cl p caps js)(hr:Room 3 X.A)(hcode:X.env.code=.ref c)(C:CodeHd X.base c T)(tb:TB X.K T q)(hq:X.env.qual++("<lambda>":Str)=q)(hdef:defaultsOf params X.env=([],[]))
  (hbind:∀pm c' ctv u,bindArgs (kla_fn "<lambda>" q params body scope cl pm (.ref c') ctv) ⟨[u],[]⟩=pure [(p,u)]) (hb:∀f c' s H,PE (zGD X X.A.in1.in1 q scope cl (p::caps) f (.ref c') s H) body (t H)) (hg:Gl X "sorted":=by rfl)
  (he:backTo pos (starEach [l] X.env)=(false,eval l X.env)::backTo pos (starEach [] X.env):=by rfl) (hpl:(backTo pos (starEach [l] X.env)).any (·.1)=false:=by rfl)
  (hst:starEach [l] X.env=(false,eval l X.env)::starEach [] X.env:=by rfl) :
  PE X (.Call (.Name "sorted" p1) [l] [⟨some "key",.Lambda params body scope lpos,kpos⟩] pos) (zUE X.K T q tl t js):=by
 intro pins s σ H Q I h
 refine wpAny_Call_Name_kw (zFG I hg hm rfl ?_)
 refine callWith_kw (thn (zBF hl pa_nil hst pos pins s σ H (λvs H1=>∃l ys,vs=[.ref l]/\SqL X.K H1 l ys/\ys.length<64/\∀H2,LamStp T q H1 H2->zE4 t js σ ys [] H2 (zQB Q ys)) I ?_) λus s1 h1=>?_) he hpl rfl rfl
 ·have h':tl σ H λx H1=>∃l ys,x=.ref l/\SqL X.K H1 l ys/\ys.length<64/\∀H2,LamStp T q H1 H2->zE4 t js σ ys [] H2 (zQB Q ys):=h
  show tl σ H λx H1=>∃l ys,[x]=[.ref l]/\SqL X.K H1 l ys/\ys.length<64/\∀H2,LamStp T q H1 H2->zE4 t js σ ys [] H2 (zQB Q ys)
  have ee:(λ(x:V) (H1:Hp)=>∃l ys,[x]=[V.ref l]/\SqL X.K H1 l ys/\ys.length<64/\∀H2,LamStp T q H1 H2->zE4 t js σ ys [] H2 (zQB Q ys))=λx H1=>∃l ys,x=V.ref l/\SqL X.K H1 l ys/\ys.length<64/\∀H2,LamStp T q H1 H2->zE4 t js σ ys [] H2 (zQB Q ys):=by
   funext x H1
   simp only[List.cons.injEq,and_true]
  rw[ee];exact h'
 ·obtain⟨vs,H1,I1,r,l',ys,rfl,hs,h64,hk⟩:=h1
  obtain⟨u,rfl,ru⟩:=zEW r
  cases ru
  show wpAny _ _ (evalAll [(do let v <-eval (.Lambda params body scope lpos) X.env;standAt pos;pure v)]) _ _ s1
  refine wpAny_evalAll_cons (wpAny_bind (zSZ I1 hcode C tb hq n.clos hdef λf c' pm ctv s2 H2 o I2 st hc hcd hsz=>wpAny_bind (wpAny_standAt (wpAny_pure (wpAny_evalAll_nil ?_)))))
  obtain⟨c2,o2,vs2,tq,e2,g2,d2,v2⟩:=hcd
  cases e2
  have:=(I2.hok _ _ hc).1
  rw[g2] at this
  cases this
  exact zQD n I2 hc d2 v2 (st.sq hs) h64 hr (hbind pm c' ctv) (hb f c') (hk H2 st)
end
end L2
namespace L2
open PySem PySem.Spec PyProof.Rows
noncomputable def zUF(ge:G)(ds:List D)(y:D):Out Int:=(ge (.val y::ds.map .val)).bind λr=>match r.1 with|.int k=>.ok k|_=>.bad
noncomputable def zQ8(ge:G)(ds:List D):List D->Out (List Int)
 |[]=>.ok []
 |y::ys=>(zUF ge ds y).bind λk=>(zQ8 ge ds ys).bind λks=>.ok (k::ks)
noncomputable def shareJ:List Nat->Ev->Ev
 |[],E=>E
 |j::js,E=>shareJ js (match E[j]? with|some (.own _ d)=>E.set j (.val d)|_=>E)
noncomputable def valsJ(E:Ev):List Nat->Option (List D)
 |[]=>some []
 |j::js=>match E[j]? with
  |some (.val d)=>(valsJ E js).map (d::·)
  |_=>none
def zQE(kz:List Int)(ys:List D)(qs:List (Int×D)):Prop:=qs.Perm (kz.zip ys)/\qs.Pairwise λa b=>a.1<=b.1
section
variable{K:PySem.W.Frag}{H₀:Hp}{τ:Addr}{F H F' H':Hp}{σ:St}{E:Ev}{js:List Nat}{T:Addr}{q:Str}
theorem LamStp.new(s:Sub F H)(st:LamStp T q H H'):∃F',New F H F' H':=by
 rcases st with rfl|⟨ps,ps',c',o,hT,hc,hcT,rfl⟩
 ·exact⟨F,.refl s⟩
 ·have hFc:F c'=none:=by
   cases e:F c' with
   |none=>rfl
   |some u=>rw[s _ _ e] at hc;cases hc
  have ot:∀a,a≠T->a≠c'->upd (upd H T (.tbl q ps')) c' (.frz o (.own c')) a=H a:=λa h1 h2=>by rw[zAE h2,zAE h1]
  have tt:upd (upd H T (.tbl q ps')) c' (.frz o (.own c')) T=some (.tbl q ps'):=by rw[zAE (Ne.symm hcT),zAD]
  refine⟨λa=>if a=T then(F T).map λ_=>.tbl q ps' else F a,⟨λa u e hw _ _=>?_,λa e=>?_,λa u e=>?_,λa u e=>?_,λ_ z=>z.elim⟩,λa u e=>?_⟩
  ·rw[ot a (λz=>by rw[z,hT] at e;cases e;exact hw) (λz=>by rw[z,hc] at e;cases e)];exact e
  ·by_cases h1:a=T
   ·rw[h1,tt] at e;cases e
   ·by_cases h2:a=c'
    ·rw[h2];exact hc
    ·rw[ot a h1 h2] at e;exact e
  ·by_cases h1:a=T
   ·subst h1
    have:=s _ _ e
    rw[hT] at this;cases this
    exact .inr (.inr ⟨q,ps,ps',rfl,by rw[if_pos rfl,e];rfl⟩)
   ·exact .inl (by rw[if_neg h1];exact e)
  ·by_cases h1:a=T
   ·subst h1
    rw[if_pos rfl] at e
    cases e1:F a with
    |none=>rw[e1] at e;cases e
    |some v=>exact .inl nofun
   ·rw[if_neg h1] at e;exact .inl (by rw[e];exact nofun)
  ·dsimp only at e
   by_cases h1:a=T
   ·subst h1
    rw[if_pos rfl] at e
    cases e1:F a with
    |none=>rw[e1] at e;cases e
    |some v=>rw[e1] at e;cases e;exact tt
   ·rw[if_neg h1] at e
    rw[ot a h1 (λz=>by rw[z,hFc] at e;cases e)];exact s a u e
theorem Sim.shareJ:∀(js:List Nat) {F:Hp} {E:Ev},Sim K H₀ τ F H σ E->∃F',Stp (owA σ E) F H F' H (owA σ (L2.shareJ js E))/\Sim K H₀ τ F' H σ (L2.shareJ js E)
 |[],F,E,S=>⟨F,.refl,S⟩
 |j::js,F,E,S=>by
  unfold L2.shareJ
  split
  ·rename_i t d e
   obtain⟨a,F1,_,st,S1,_⟩:=S.share e
   obtain⟨F2,st2,S2⟩:=Sim.shareJ js S1
   exact⟨F2,st.trans st2,S2⟩
  ·exact Sim.shareJ js S
theorem Sim.valsJ(S:Sim K H₀ τ F H σ E):∀{js:List Nat} {ds:List D},L2.valsJ E js=some ds->∃ws,(js.map λj=>(σ[j]?).getD none)=ws.map some/\Reps K F ws ds
 |[],_,e=>by cases e;exact⟨[],rfl,.nil⟩
 |j::js,ds,e=>by
  unfold L2.valsJ at e
  split at e
  ·rename_i d ej
   cases e2:L2.valsJ E js with
   |none=>rw[e2] at e;cases e
   |some ds' =>
    rw[e2] at e
    cases e
    obtain⟨ws,h1,h2⟩:=S.valsJ e2
    obtain⟨v,hv,hr⟩:=S.val j d ej
    exact⟨v::ws,by rw[List.map_cons,h1,hv];rfl,.cons hr h2⟩
  ·cases e
theorem zUG{ge:G}{ds:List D}{E:Ev}(hv:L2.valsJ E js=some ds){R:List Int->Hp->Prop}:∀{ys:List D} {vs:List V} {acc kz:List Int} {F H:Hp},Sim K H₀ τ F H σ E->Reps K F vs ys->zQ8 ge ds ys=.ok kz ->
  (∀F' H',New F H F' H'->R (acc++kz) H')->zE4 (λH=>tV K H ge) js σ vs acc H R
 |[],vs,acc,kz,F,H,S,r,e,k=>by
  (first|obtain rfl:=r.vI|obtain rfl:=r.vB|obtain rfl:=r.vS|obtain rfl:=r.vN|cases r)
  cases e
  have:=k F H (.refl S.sub)
  rw[List.append_nil] at this
  exact this
 |y::ys,vs,acc,kz,F,H,S,r,e,k=>by
  cases r with
  |@cons v _ vs' _ ry rys =>
  unfold zQ8 at e
  obtain⟨k1,e1,e⟩:=Out.bind_ok e
  obtain⟨ks,e2,e⟩:=Out.bind_ok e
  cases e
  unfold zUF at e1
  obtain⟨rr,e3,e1⟩:=Out.bind_ok e1
  obtain⟨ws,hws,rws⟩:=S.valsJ hv
  have hcap:zUD js v σ=(v::ws).map some:=by unfold zUD;rw[hws];rfl
  show tV K H ge (zUD js v σ) H _
  rw[hcap]
  refine⟨0,F,(y::ds).map Sl.val,rr.1,rr.2,Sim.args S.sub (.cons ry rws),e3,λv2 F2 H2 st S2 r2=>?_⟩
  split at e1
  ·rename_i kk ek
   cases e1
   rw[ek] at r2
   (first|obtain rfl:=r2.vI|obtain rfl:=r2.vB|obtain rfl:=r2.vS|obtain rfl:=r2.vN|cases r2)
   have n:New F H F2 H2:=⟨⟨λa o q1 q2 q3 _=>st.keep a o q1 q2 q3 (zSC a),st.dom,st.le,λa o z=>(st.new a o z).imp_right λz=>z.imp_right λz=>(zSC a z).elim,λ_ z=>z.elim⟩,S2.sub⟩
   exact⟨_,rfl,zUG hv (S.new n) (rys.le n.1.le) e2 λF' H' n'=>by
    rw[List.append_assoc]
    exact k F' H' (n.trans n')⟩
  ·cases e1
theorem yD2{vs:List V}{ys:List D}:∀{kz:List Int},Reps K F vs ys->Paired (λ(b:Int×D) (a:Int×V)=>a.1=b.1/\Rep K F a.2 b.2) (kz.zip ys) (kz.zip vs):=by
 intro kz r
 induction kz generalizing vs ys with
 |nil=>exact .nil
 |cons k kz ih=>cases r with
  |nil=>exact .nil
  |cons h t=>exact .cons ⟨rfl,h⟩ (ih t)
theorem zZ1:∀{a:List (Int×D)} {b:List (Int×V)},Paired (λ(b:Int×D) (a:Int×V)=>a.1=b.1/\Rep K F a.2 b.2) a b->Reps K F (b.map Prod.snd) (a.map Prod.snd)/\a.map Prod.fst=b.map Prod.fst
 |_,_,.nil=>⟨.nil,rfl⟩
 |_,_,.cons h t=>by
  obtain⟨h1,h2⟩:=zZ1 t
  exact⟨.cons h.2 h1,by rw[List.map_cons,List.map_cons,h.1,h2]⟩
theorem zMP{gl ge:G}{Q:VK} (h:∃τ F E ys E1 ds kz,Sim K H₀ τ F H σ E/\gl E=.ok (.lst ys,E1)/\ys.length<64/\L2.valsJ (L2.shareJ js E1) js=some ds/\zQ8 ge ds ys=.ok kz /\
   ∀qs,zQE kz ys qs->∀a F' H',Stp (owA σ E) F H F' H' (owA σ (L2.shareJ js E1))->Sim K H₀ τ F' H' σ (L2.shareJ js E1)->F' a=none->H a=none->OwnAt K F' H' a (.lst (qs.map Prod.snd))->¬owA σ (L2.shareJ js E1) a->Q (.ref a) H') :
  zUE K T q (tV K H₀ gl) (λH=>tV K H ge) js σ H Q:=by
 obtain⟨τ,F,E,ys,E1,ds,kz,S,e1,h64,hv,hk,k⟩:=h
 refine⟨τ,F,E,_,_,S,e1,λv F1 H1 st1 S1 r1=>?_⟩
 cases r1 with
 |@lst l vs _ sq rs =>
 refine⟨l,vs,rfl,sq.imp S1.sub.rd id,by rw[rs.length];exact h64,λH2 ls=>?_⟩
 obtain⟨F2,n2⟩:=ls.new S1.sub
 obtain⟨F3,st3,S3⟩:=(S1.new n2).shareJ js
 have rs3:Reps K F3 vs ys:=(rs.le n2.1.le).le st3.le
 refine zUG hv S3 rs3 hk λF4 H4 n4 ps pp pw D hD=>?_
 rw[List.nil_append] at pp
 have rs4:=rs3.le n4.1.le
 obtain⟨qs,qp,qr⟩:=Paired.perm pp (yD2 (kz:=kz) rs4)
 obtain⟨r5,r6⟩:=zZ1 qr
 have hF:F4 D=none:=by
  cases e:F4 D with
  |none=>rfl
  |some u=>rw[n4.2 _ _ e] at hD;cases hD
 have n5:New F4 H4 F4 (upd H4 D (.lst (ps.map Prod.snd))):=New.junk n4.2 (Gr.new hD)
 have S4:=S3.new n4
 have st:Stp (owA σ E) F H F4 (upd H4 D (.lst (ps.map Prod.snd))) (owA σ (L2.shareJ js E1)):=(((st1.trans n2.stp).trans st3).trans n4.stp).trans n5.stp
 refine k qs ⟨qp,?_⟩ D F4 _ st (S4.new n5) hF ?_ ⟨_,zAD,r5⟩ (S4.fresh hD)
 ·have:(qs.map Prod.fst).Pairwise (·<=·):=by rw[r6,List.pairwise_map];exact pw
  rw[List.pairwise_map] at this
  exact this
 ·exact(((st1.trans n2.stp).trans st3).trans n4.stp:Stp (owA σ E) F H F4 H4 _).dom D hD
end
section
variable{X:Cx}{K:PySem.W.Frag}{H₀ F H F1 H1:Hp}{τ:Addr}{pos:Pos}{g:GS}
theorem zZ2{t:Tg}{D':Ends}{σ:St}{E E1:Ev}{ds:List D}{r:Fl}{J:It}(k:FlOk K H₀ τ (owA σ E) F H D' r)(s1:Stp (owA σ E) F H F1 H1 (owA σ E1))(S1:Sim K H₀ τ F1 H1 σ E1)(w1:Walks K J F1 ds)(hg:zCP t g ds E1=.ok r) :
  ∃W:Nat->Nat->St->Hp->Prop,(∃m,W 0 m σ H1)/\∀i m σ H,W i m σ H ->
   (J.stop i H/\D'.nx σ H)\/(J.go i H/\∃N:St->Hp->Prop,(∀σ' H',N σ' H'->∃m',m'<m/\W (i+1) m' σ' H')/\∀x H',J.yld i H x H'->tG K H₀ t x σ H' λσ2 H2=>tS K H₀ g { D' with nx:=N,ct:=N,bk:=D'.nx } σ2 H2):=by
 refine⟨λi m σ2 H2=>m=ds.length-i/\i<=ds.length/\∃F2 E2,Sim K H₀ τ F2 H2 σ2 E2/\Stp (owA σ E) F H F2 H2 (owA σ2 E2)/\Le F1 F2/\zCP t g (ds.drop i) E2=.ok r,⟨_,rfl,Nat.zero_le _,F1,E1,S1,s1,.refl _,by rw[List.drop_zero];exact hg⟩,?_⟩
 rintro i m σ2 H2 ⟨rfl,hil,F2,E2,S2,s2,l2,h2⟩
 obtain⟨w2,w3,w4⟩:=w1 i F2 H2 l2 S2.sub
 by_cases hi:i<ds.length
 ·obtain⟨d,hd⟩:∃d,ds[i]?=some d:=⟨ds[i],by simp[hi]⟩
  have hdr:ds.drop i=d::ds.drop (i+1):=by
   rw[List.drop_eq_getElem_cons hi]
   have:ds[i]=d:=by rw[List.getElem?_eq_getElem hi] at hd;exact Option.some.inj hd
   rw[this]
  rw[hdr,zCP] at h2
  obtain⟨E3,e3,h2⟩:=Out.bind_ok h2
  obtain⟨q,e4,h2⟩:=Out.bind_ok h2
  refine .inr ⟨w2 hi,λσ5 H5=>∃F5 E5,Sim K H₀ τ F5 H5 σ5 E5/\Stp (owA σ E) F H F5 H5 (owA σ5 E5)/\Le F1 F5/\zCP t g (ds.drop (i+1)) E5=.ok r,λσ5 H5 ⟨F5,E5,a1,a2,a3,a4⟩=>⟨_,by omega,rfl,hi,F5,E5,a1,a2,a3,a4⟩,λx H' y=>?_⟩
  obtain⟨F3,n3,r3⟩:=w4 x H' d hd y
  refine⟨τ,F3,E2,d,E3,S2.new n3,r3,e3,λσ4 S4 h4 _=>⟨τ,F3,E3,q,S4,e4,?_⟩⟩
  have s4:Stp (owA σ E) F H F3 H' (owA σ4 E3):=(s2.trans n3.stp).weak h4
  have l3:Le F1 F3:=l2.trans n3.1.le
  cases q with
  |nx E5=>exact λσ5 F5 H5 s5 S5=>⟨F5,E5,S5,s4.trans s5,l3.trans s5.le,h2⟩
  |ct E5=>exact λσ5 F5 H5 s5 S5=>⟨F5,E5,S5,s4.trans s5,l3.trans s5.le,h2⟩
  |bk E5=>cases h2;exact λσ5 F5 H5 s5 S5=>k σ5 F5 H5 (s4.trans s5) S5
  |rt b d E5=>cases h2;exact λσ5 v F5 H5 s5 S5 q=>k σ5 v F5 H5 (s4.trans s5) S5 (q.pre s4)
 ·have hi:i=ds.length:=by omega
  rw[List.drop_eq_nil_of_le (by omega),zCP] at h2
  cases h2
  exact .inl ⟨w3 hi,k σ2 F2 H2 s2 S2⟩
end
noncomputable def zFT(gl:G)(js:List Nat)(ge:G):Ev->Out ((List D×List Int)×Ev):=λE=>(gl E).bind λp=>match p.1,valsJ (shareJ js p.2) js with
 |.lst ys,some ds=>if ys.length<64 then(zQ8 ge ds ys).bind λkz=>.ok ((ys,kz),shareJ js p.2) else .bad
 |_,_=>.bad
theorem zJ1{gl ge:G}{js:List Nat}{E E2:Ev}{ys:List D}{kz:List Int}(h:zFT gl js ge E=.ok ((ys,kz),E2)) :
  ∃E1 ds,gl E=.ok (.lst ys,E1)/\ys.length<64/\valsJ (shareJ js E1) js=some ds/\zQ8 ge ds ys=.ok kz/\E2=shareJ js E1:=by
 unfold zFT at h
 obtain⟨p,e,h⟩:=Out.bind_ok h
 obtain⟨d,E1⟩:=p
 dsimp only at h
 cases hv:valsJ (shareJ js E1) js with
 |none=>rw[hv] at h;cases d<;>cases h
 |some ds =>
  rw[hv] at h
  cases d with
  |lst ys' =>
   dsimp only at h
   by_cases hl:ys'.length<64
   ·rw[if_pos hl] at h
    obtain⟨kz',e3,h⟩:=Out.bind_ok h
    cases h
    exact⟨E1,ds,e,hl,hv,e3,rfl⟩
   ·rw[if_neg hl] at h;cases h
  |_=>cases h
noncomputable def hush:List Nat->Ev->Ev
 |[],E=>E
 |k::ks,E=>hush ks (match E[k]? with|some (.val _)=>E.set k .no|_=>E)
theorem Sim.hush{K:PySem.W.Frag}{H₀ F H:Hp}{τ:Addr}{σ:St}:∀(ks:List Nat) {E:Ev},Sim K H₀ τ F H σ E->Sim K H₀ τ F H σ (L2.hush ks E)/\∀a,owA σ (L2.hush ks E) a->owA σ E a
 |[],_,S=>⟨S,λ_ h=>h⟩
 |k::ks,E,S=>by
  rw[L2.hush]
  split
  ·rename_i d e
   have hk:=(List.getElem?_eq_some_iff.mp e).1
   have old:∀(j:Nat) s,(E.set k .no)[j]?=some s->s≠.no->E[j]?=some s:=λj s q n=>by
    by_cases hj:k=j
    ·subst hj;rw[List.getElem?_set_self hk] at q;exact absurd (Option.some.inj q).symm n
    ·rw[List.getElem?_set_ne hj] at q;exact q
   have S1:Sim K H₀ τ F H σ (E.set k .no):=⟨S.sub,by rw[List.length_set];exact S.len,λj d q=>S.val j d (old j _ q (λz=>by cases z)),λj t d q=>S.own j t d (old j _ q (λz=>by cases z)),
    λi j t u d d' a q1 q2=>S.inj i j t u d d' a (old i _ q1 (λz=>by cases z)) (old j _ q2 (λz=>by cases z))⟩
   obtain⟨S2,h2⟩:=Sim.hush ks S1
   refine⟨S2,λa h=>?_⟩
   obtain⟨j,t,d,q1,q2⟩:=h2 a h
   exact⟨j,t,d,old j _ q1 (λz=>by cases z),q2⟩
  ·exact Sim.hush ks S
open Classical in
noncomputable def zJ2(gl:G)(js:List Nat)(ge:G):G:=λE=>(zFT gl js ge E).bind λp=>if h:∃zs,∀qs,zQE p.1.2 p.1.1 qs->qs.map Prod.snd=zs then .ok (.lst h.choose,p.2) else .bad
open Classical in
noncomputable def zQF(gl:G)(js:List Nat)(ge:G)(t:Tg)(g:GS)(ks:List Nat):GS:=λE=>(zFT gl js ge E).bind λp=>if h:∃E1,∀qs,zQE p.1.2 p.1.1 qs->∃E2,zCP t g (qs.map Prod.snd) p.2=.ok (.nx E2)/\hush ks E2=E1 then .ok (.nx h.choose) else .bad
section
variable{X:Cx}{scope:Scope}{cl:List (Str×Addr)}{x:Str}{caps:List Str}{js:List Nat}{q:Str}{params:Arguments}{body:Expr}{c T:Addr}{l tg:Expr}{gl ge:G}{p1 pos lpos kpos:Pos}
structure LamOk(X:Cx)(scope:Scope)(cl:List (Str×Addr))(x:Str)(caps:List Str)(js:List Nat)(q:Str)(params:Arguments)(body:Expr)(c T:Addr):Prop where
 nm:LamNm X scope cl x caps js
 room:Room 3 X.A
 code:X.env.code=.ref c
 hd:PySem.W.CodeHd X.base c T
 tb:TB X.K T q
 qual:∃n:Str,X.env.qual=n/\n++("<lambda>":Str)=q
 dflt:defaultsOf params X.env=([],[])
 bind:∀pm c' ctv u,bindArgs (PySem.W.kla_fn "<lambda>" q params body scope cl pm (.ref c') ctv) ⟨[u],[]⟩=pure [(x,u)]
theorem LamOk.qu(n:LamOk X scope cl x caps js q params body c T):X.env.qual++("<lambda>":Str)=q:=by
 obtain⟨m,h1,h2⟩:=n.qual
 rw[h1];exact h2
theorem zWM(hm:X.mg "sorted"=none)(hl:VE X l gl)(n:LamOk X scope cl x caps js q params body c T)(hb:∀f c' s H,VE (zGD X X.A.in1.in1 q scope cl (x::caps) f (.ref c') s H) body ge)(hg:Gl X "sorted":=by rfl)
  (he:backTo pos (starEach [l] X.env)=(false,eval l X.env)::backTo pos (starEach [] X.env):=by rfl) (hpl:(backTo pos (starEach [l] X.env)).any (·.1)=false:=by rfl)
  (hst:starEach [l] X.env=(false,eval l X.env)::starEach [] X.env:=by rfl) :
  FE X (.Call (.Name "sorted" p1) [l] [⟨some "key",.Lambda params body scope lpos,kpos⟩] pos) (zJ2 gl js ge) :=
 (zMO (t:=λH=>tV X.K H ge) hm hl n.nm n.room n.code n.hd n.tb n.qu n.dflt n.bind hb hg he hpl hst).imp λσ H Q h=>by
  obtain⟨τ,F,E,d,E',S,hg,k⟩:=h
  unfold zJ2 at hg
  obtain⟨⟨⟨ys,kz⟩,E2⟩,e1,hg⟩:=Out.bind_ok hg
  obtain⟨E1,ds,a1,a2,a3,a4,rfl⟩:=zJ1 e1
  split at hg
  ·rename_i h
   cases hg
   exact zMP ⟨τ,F,E,ys,E1,ds,kz,S,a1,a2,a3,a4,λqs hq a F' H' st S' n1 n2 ow no=>k a F' H' st S' n1 n2 (by rw[<-h.choose_spec qs hq];exact ow) no⟩
  ·cases hg
theorem zWN{bd:List Stmt}{t:Tg}{g:GS}{spos:Pos}{ks:List Nat}(hp:PassesOwn (model X.prog X.w) X.A X.env X.xe)(hc:X.calm=true)(hm:X.mg "sorted"=none)(hl:VE X l gl)(n:LamOk X scope cl x caps js q params body c T)
  (hb:∀f c' s H,VE (zGD X X.A.in1.in1 q scope cl (x::caps) f (.ref c') s H) body ge) (hgt:VG X tg t) (hbd:VSs X bd g) (hg:Gl X "sorted":=by rfl)
  (he:backTo pos (starEach [l] X.env)=(false,eval l X.env)::backTo pos (starEach [] X.env):=by rfl) (hpl:(backTo pos (starEach [l] X.env)).any (·.1)=false:=by rfl)
  (hst:starEach [l] X.env=(false,eval l X.env)::starEach [] X.env:=by rfl)
  (hs:∀x,foldedSetIterable (.Call (.Name "sorted" p1) [l] [⟨some "key",.Lambda params body scope lpos,kpos⟩] pos) X.env x=pure x:=by intro _;rfl) :
  VS X (.For tg (.Call (.Name "sorted" p1) [l] [⟨some "key",.Lambda params body scope lpos,kpos⟩] pos) bd [] spos) (zQF gl js ge t g ks) :=
 (zGI hp hc (zOD (zMO (t:=λH=>tV X.K H ge) hm hl n.nm n.room n.code n.hd n.tb n.qu n.dflt n.bind hb hg he hpl hst)) hgt hbd hs).imp λD' σ H h=>by
  obtain⟨τ,F,E,r,S,hg,k⟩:=h
  unfold zQF at hg
  obtain⟨⟨⟨ys,kz⟩,E2⟩,e1,hg⟩:=Out.bind_ok hg
  obtain⟨E1,ds,a1,a2,a3,a4,rfl⟩:=zJ1 e1
  split at hg
  ·rename_i hr
   cases hg
   refine zMP ⟨τ,F,E,ys,E1,ds,kz,S,a1,a2,a3,a4,λqs hq a F' H' st S' n1 n2 ow no=>?_⟩
   obtain⟨vs,ha,rv⟩:=ow
   have gr:Gr F' (upd F' a (.lst vs)):=Gr.new n1
   have S2:Sim X.K X.H₀ τ (upd F' a (.lst vs)) H' σ (shareJ js E1):=by
    refine⟨λb u e=>?_,S'.len,λi d e=>?_,λi t d e=>?_,S'.inj⟩
    ·by_cases hb:b=a
     ·subst hb;rw[zAD] at e;rw[ha];exact e
     ·rw[zAE hb] at e;exact S'.sub b u e
    ·obtain⟨v,h1,h2⟩:=S'.val i d e;exact⟨v,h1,h2.le (.of_gr gr)⟩
    ·obtain⟨b,h1,h2,h3,h4⟩:=S'.own i t d e
     refine⟨b,h1,?_,h3.mono (.of_gr gr) rfl,h4⟩
     rw[zAE (λz=>no ⟨i,t,d,e,by rw[<-z];exact h1⟩)];exact h2
   have st2:Stp (owA σ E) F H (upd F' a (.lst vs)) H' (owA σ (shareJ js E1)):=⟨st.keep,st.dom,st.le.trans (.of_gr gr),λb u e=>by
    by_cases hb:b=a
    ·subst hb;exact .inr (.inl (.none n2))
    ·rw[zAE hb] at e;exact st.new b u e,st.own⟩
   obtain⟨E',hl',hh⟩:=hr.choose_spec qs hq
   rw[<-hh] at k
   have k':FlOk X.K X.H₀ τ (owA σ E) F H D' (.nx E'):=λσ' F' H' st S=>k σ' F' H' (st.weak (S.hush ks).2) (S.hush ks).1
   exact⟨a,rfl,⟨vs,.inl (.inl ha)⟩,zZ2 k' st2 S2 (zGS (.inl (.inl zAD)) (rv.le (.of_gr gr))) hl'⟩
  ·cases hg
end
theorem zMQ{α:Type}:∀l:List α,(List.range l.length).filterMap (λi=>l[i]?)=l
 |[]=>rfl
 |a::l=>by
  rw[List.length_cons,List.range_succ_eq_map,List.filterMap_cons]
  simp only[List.getElem?_cons_zero,List.filterMap_map]
  congr 1
  exact zMQ l
theorem zH7(its:List Value):slicePick its.toArray none none (some (-1))=its.reverse.toArray:=by
 have h:=picked_rev its.length
 unfold slicePick
 have e:sliceRange (sliceBounds none none (some (-1)) its.toArray.size).1 (sliceBounds none none (some (-1)) its.toArray.size).2.1 (sliceBounds none none (some (-1)) its.toArray.size).2.2=(List.range its.length).map λk=>its.length-1-k:=by
  rw[<-h]
  simp[sliceBounds,Builtin.Str.strSliceIndices]
 rw[e]
 congr 1
 rw[List.filterMap_map]
 have g:∀ks:List Nat,(∀k∈ks,k<its.length)->ks.filterMap ((λi=>its.toArray[i]?)∘λk=>its.length-1-k)=ks.filterMap λi=>its.reverse[i]?:=by
  intro ks
  induction ks with
  |nil=>intro _;rfl
  |cons k ks ih =>
   intro hk
   have e:((λi=>its.toArray[i]?)∘λk=>its.length-1-k) k=its.reverse[k]?:=by
    show its.toArray[its.length-1-k]?=its.reverse[k]?
    rw[List.getElem?_reverse (hk k (.head _)),List.getElem?_toArray]
   rw[List.filterMap_cons,List.filterMap_cons,e,ih λk hk'=>hk k (.tail _ hk')]
 refine(g _ λk hk=>List.mem_range.mp hk).trans ?_
 have:=zMQ its.reverse
 rw[List.length_reverse] at this
 exact this
section
variable{X:Cx}{e st:Expr}{te ts:TE}{pos p2:Pos}
def yB2(K:PySem.W.Frag)(te ts:TE):TE:=λσ H Q=>te σ H λx H1=>ts σ H1 λy H2=>y=.int (-1)/\∃a xs,x=.ref a/\SqL K H2 a xs/\∀p,H2 p=none->Q (.ref p) (upd H2 p (.lst xs.reverse))
theorem zWO(he:PE X e te)(hs:PE X st ts):PE X (.Subscript e (.Slice none none (some st) p2) pos) (yB2 X.K te ts):=by
 intro pins s σ H Q I h
 refine Subscript_ (thn (he pins s σ H _ I h) λv s1 ⟨x,H1,I1,r1,q1⟩=>?_)
 refine wpAny_Slice ?_
 rw[evalPart_none]
 refine wpAny_pure (wpAny_pure ?_)
 rw[evalPart_some]
 refine thn (hs pins s1 σ H1 _ I1 q1) λu s3 ⟨y,H3,I3,r3,q3⟩=>?_
 obtain⟨rfl,a,xs,rfl,hx,q⟩:=q3
 obtain⟨t,rfl⟩:=r3
 cases r1
 have I4:Inv X pins σ H3 { s3 with heap:=s3.heap.push { cls:=.type "slice",data:=.fields #[.none,.none,.int (-1) t] } }:=I3.kept (t':=s3.toks) λb ob q=>Heap.get?_push_of_some _ q
 obtain⟨its,r,ht,hz⟩:=I4.list hx
 have hlen:=r.length
 show wpAny (model X.prog X.w) X.A (subscriptTail e (.Slice none none (some st) p2) (.ref a) (.ref s3.heap.objs.size)) (EP X pins σ Q) X.xe { s3 with heap:=s3.heap.push { cls:=.type "slice",data:=.fields #[.none,.none,.int (-1) t] } }
 refine tail_any (ops:=[.ref a,.ref s3.heap.objs.size]) ht.isList.typeIs slot_list_getitem.lookup ?_ (by with_unfolding_all rfl)
 refine wpAny_getItem_list_slice ht.isList (Heap.IsSliceOf.new ..) .none .none (.int (-1) t) (by simp) ?_ (by rw[List.size_toArray]<;>lia)
 rw[zH7]
 refine⟨.ref (s3.heap.push { cls:=.type "slice",data:=.fields #[.none,.none,.int (-1) t] }).objs.size,_,I4.laid (t':=s3.toks) (o:=.lst xs.reverse) (λb ob q=>Heap.get?_push_of_some _ q) (Nat.le_refl _) ?_,rfl,q _ (I4.hok.fresh (Nat.le_refl _))⟩
 refine⟨by rw[List.length_reverse];exact hz,its.reverse,0,?_,Heap.get?_push_size _ rfl⟩
 exact Vals.reverse r
end
noncomputable def zZ3(ge gs:G):G:=λE=>(ge E).bind λp=>(gs p.2).bind λq=>match p.1 with
 |.lst xs=>if q.1 matches .int (-1) then .ok (.lst xs.reverse,q.2) else .bad
 |_=>.bad
section
variable{X:Cx}{e st:Expr}{ge gs:G}{pos p2:Pos}
theorem yB3(he:VE X e ge)(hs:VE X st gs):FE X (.Subscript e (.Slice none none (some st) p2) pos) (zZ3 ge gs):=(zWO he hs).imp λσ H Q h=>by
 obtain⟨τ,F,E,d,E',S,hg,k⟩:=h
 unfold zZ3 at hg
 obtain⟨p,e1,hg⟩:=Out.bind_ok hg
 obtain⟨q,e2,hg⟩:=Out.bind_ok hg
 refine⟨τ,F,E,p.1,p.2,S,e1,λv F1 H1 st1 S1 r1=>⟨τ,F1,p.2,q.1,q.2,S1,e2,λu F2 H2 st2 S2 r2=>?_⟩⟩
 obtain⟨pd,pE⟩:=p
 obtain⟨qd,qE⟩:=q
 cases pd with
 |lst xs =>
  dsimp only at hg r2 r1
  split at hg
  ·cases hg
   (first|obtain rfl:=r2.vI|obtain rfl:=r2.vB|obtain rfl:=r2.vS|obtain rfl:=r2.vN|cases r2)
   cases r1 with
   |@lst a vs _ sq rs =>
   refine⟨rfl,a,vs,rfl,(sq.imp (λz=>st2.le.rd z) id).imp S2.sub.rd id,λD hD=>?_⟩
   have n5:New F2 H2 F2 (upd H2 D (.lst vs.reverse)):=New.junk S2.sub (Gr.new hD)
   have hF:F2 D=none:=by
    cases e:F2 D with
    |none=>rfl
    |some u=>rw[S2.sub _ _ e] at hD;cases hD
   exact k D F2 _ ((st1.trans st2).trans n5.stp) (S2.new n5) hF ((st1.trans st2).dom D hD) ⟨_,zAD,(rs.le st2.le).reverse⟩ (S2.fresh hD)
  ·cases hg
 |_=>cases hg
end
theorem zZ4{X:Cx}{q:Str}{scope:Scope}{cl:List (Str×Addr)}{nm:List Str}{f:Addr}{cd:Value}{s:Shared}{H:Hp}{e:Expr}{g:G}(hr:Room 3 X.A)
  (h:(zGD X X.A.in1.in1 q scope cl nm f cd s H).A.units+64<cLine->VE (zGD X X.A.in1.in1 q scope cl nm f cd s H) e g):VE (zGD X X.A.in1.in1 q scope cl nm f cd s H) e g :=
 h (hr.in1.in1.deeper _).units
section
variable{K:PySem.W.Frag}{x:Str}{f c T:Addr}{oc oc':Value}{od od':Option Addr}{fd:FuncData}{sl sl':Array (Option Value)}{vs:Array Value}
theorem tabIn_of(a:PySem.W.nsIn K mainGlobals x=some (some (.ref f)))(l:K.lookup f=some ⟨oc,od,.func fd,sl⟩)(hc:fd.code=.ref c)(m:K.lookup c=some ⟨oc',od',.fields vs,sl'⟩)(hv:vs[11]?=some (.ref T)):PySem.W.tabIn K x=some (c,T):=by
 unfold PySem.W.tabIn
 rw[a]
 simp only[l,hc,m,hv]
theorem zS1(a:PySem.W.nsIn K mainGlobals x=some none):PySem.W.tabIn K x=none:=by
 unfold PySem.W.tabIn
 rw[a]
inductive TabE(K:PySem.W.Frag)(q:Program)(x:Str):Option Addr->Prop
 |no:PySem.W.nsIn K mainGlobals x=some none->TabE K q x none
 |tab {c T:Addr} {d:DefRec}:PySem.W.tabIn K x=some (c,T)->K.lookup T=none->(recsOf q).find? (λe=>e.name==x)=some d->TabE K q x (some T)
theorem Tabs.of {q : Program} {t1 t2 t3 t4 : Option Addr} (h1 : TabE K q "holders" t1) (h2 : TabE K q "_law_table" t2) (h3 : TabE K q "_law_back" t3) (h4 : TabE K q "_law_kept_right" t4)
    (ap : [t1, t2, t3, t4].Pairwise fun a b => a = none ∨ a ≠ b) : Tabs K q := by
  have g : ∀ {x : Str} {t : Option Addr}, TabE K q x t → ∀ c T, PySem.W.tabIn K x = some (c, T) → t = some T ∧ K.lookup T = none ∧ ∃ d, (recsOf q).find? (fun e => e.name == x) = some d := fun {x t} h c T e => by
    cases h with
    | no z => rw [zS1 z] at e; cases e
    | tab z1 z2 z3 => rw [z1] at e; cases e; exact ⟨rfl, z2, _, z3⟩
  have all : ∀ x ∈ zBT, ∃ t, TabE K q x t := fun x hx => by
    unfold zBT at hx
    simp only [List.mem_cons, List.not_mem_nil, or_false] at hx
    rcases hx with rfl | rfl | rfl | rfl
    · exact ⟨_, h1⟩
    · exact ⟨_, h2⟩
    · exact ⟨_, h3⟩
    · exact ⟨_, h4⟩
  simp only [List.pairwise_cons, List.mem_cons, List.not_mem_nil, or_false, forall_eq_or_imp, forall_eq, false_implies, implies_true, and_true] at ap
  refine ⟨fun x hx c T e => let ⟨t, h⟩ := all x hx; (g h c T e).2.2, fun x hx c T e => let ⟨t, h⟩ := all x hx; (g h c T e).2.1, fun x hx y hy c c' T e e' => ?_⟩
  unfold zBT at hx hy
  simp only [List.mem_cons, List.not_mem_nil, or_false] at hx hy
  rcases hx with rfl | rfl | rfl | rfl <;> rcases hy with rfl | rfl | rfl | rfl
  all_goals first
    | rfl
    | (exfalso; simp_all [(g h1 _ _ ‹_›).1]; done)
    | (exfalso
       first
         | (have a := (g h1 _ _ e).1; have b := (g h2 _ _ e').1; subst a; subst b; simp at ap; done)
         | (have a := (g h1 _ _ e).1; have b := (g h3 _ _ e').1; subst a; subst b; simp at ap; done)
         | (have a := (g h1 _ _ e).1; have b := (g h4 _ _ e').1; subst a; subst b; simp at ap; done)
         | (have a := (g h2 _ _ e).1; have b := (g h1 _ _ e').1; subst a; subst b; simp at ap; done)
         | (have a := (g h2 _ _ e).1; have b := (g h3 _ _ e').1; subst a; subst b; simp at ap; done)
         | (have a := (g h2 _ _ e).1; have b := (g h4 _ _ e').1; subst a; subst b; simp at ap; done)
         | (have a := (g h3 _ _ e).1; have b := (g h1 _ _ e').1; subst a; subst b; simp at ap; done)
         | (have a := (g h3 _ _ e).1; have b := (g h2 _ _ e').1; subst a; subst b; simp at ap; done)
         | (have a := (g h3 _ _ e).1; have b := (g h4 _ _ e').1; subst a; subst b; simp at ap; done)
         | (have a := (g h4 _ _ e).1; have b := (g h1 _ _ e').1; subst a; subst b; simp at ap; done)
         | (have a := (g h4 _ _ e).1; have b := (g h2 _ _ e').1; subst a; subst b; simp at ap; done)
         | (have a := (g h4 _ _ e).1; have b := (g h3 _ _ e').1; subst a; subst b; simp at ap; done))
end
end L2
namespace L2
open PySem
theorem zAH{α β:Type}{x:Out α}{a:α}{f:α->Out β}{r:Out β}(h:x=.ok a)(h2:f a=r):x.bind f=r:=by rw[h];exact h2
theorem zAK{g g':GS}{E E1:Ev}{r:Out Fl}(h:g E=.ok (.nx E1))(h2:g' E1=r):zA2 g g' E=r:=by
 unfold zA2;rw[h];exact h2
theorem zMR{g g':GS}{E E1:Ev}{b:Bool}{d:D}(h:g E=.ok (.rt b d E1)):zA2 g g' E=.ok (.rt b d E1):=by
 unfold zA2;rw[h];rfl
theorem zS2{t:Ev->Out (Bool×Ev)}{g g':GS}{E E1:Ev}{r:Out Fl}(h:t E=.ok (true,E1))(h2:g E1=r):zE7 t g g' E=r:=by
 unfold zE7;rw[h];exact h2
theorem zLL{t:Ev->Out (Bool×Ev)}{g g':GS}{E E1:Ev}{r:Out Fl}(h:t E=.ok (false,E1))(h2:g' E1=r):zE7 t g g' E=r:=by
 unfold zE7;rw[h];exact h2
theorem zFC{t:Tg}{g:GS}(P:Nat->Ev->Prop):∀{ds:List D} {E:Ev} (o:Nat),P o E ->
  (∀i d E,ds[i]?=some d->P (o+i) E->∃E1,gTg t d E=.ok E1/\∃E2,g E1=.ok (.nx E2)/\P (o+(i+1)) E2)->∃E',zCP t g ds E=.ok (.nx E')/\P (o+ds.length) E'
 |[],E,o,h0,_=>⟨E,rfl,h0⟩
 |d::ds,E,o,h0,hs=>by
  obtain⟨E1,e1,E2,e2,p2⟩:=hs 0 d E rfl h0
  obtain⟨E',e',p'⟩:=zFC P (ds:=ds) (E:=E2) (o+1) p2 λi d' E3 hd hp=>by
   have:=hs (i+1) d' E3 (by simpa using hd) (by rw[show o+(i+1)=o+1+i by lia];exact hp)
   rw[show o+(i+1+1)=o+1+(i+1) by lia] at this
   exact this
  refine⟨E',?_,?_⟩
  ·unfold zCP;rw[e1];simp only[Out.bind];rw[e2];exact e'
  ·rw[List.length_cons,show o+(ds.length+1)=o+1+ds.length by lia];exact p'
theorem zCM{gi:GI}{t:Tg}{g:GS}{E E1:Ev}{ds:List D}(P:Nat->Ev->Prop)(hi:gi E=.ok (ds,E1))(h0:P 0 E1)
  (hs:∀i d E,ds[i]?=some d->P i E->∃E1,gTg t d E=.ok E1/\∃E2,g E1=.ok (.nx E2)/\P (i+1) E2):∃E',zED gi t g E=.ok (.nx E')/\P ds.length E':=by
 obtain⟨E',e,p⟩:=zFC (t:=t) (g:=g) P (ds:=ds) (E:=E1) 0 h0 (λi d E hd hp=>by
  rw[Nat.zero_add] at hp ⊢;exact hs i d E hd hp)
 refine⟨E',?_,by simpa using p⟩
 unfold zED;rw[hi];exact e
theorem zJ3{t:Ev->Out (Bool×Ev)}{g:GS}(P:Nat->Ev->Prop)(Q:Ev->Prop)
  (hs:∀n E,P n E->(∃E1,t E=.ok (false,E1)/\Q E1)\/(∃E1 E2 m,t E=.ok (true,E1)/\g E1=.ok (.nx E2)/\m<n/\P m E2)) :
  ∀(fuel n:Nat) (E:Ev),n<fuel->P n E->∃E',gWh t g fuel E=.ok (.nx E')/\Q E'
 |0,n,E,hn,_=>by lia
 |fuel+1,n,E,hn,h=>by
  rcases hs n E h with⟨E1,e1,q⟩|⟨E1,E2,m,e1,e2,hm,p⟩
  ·refine⟨E1,?_,q⟩
   unfold gWh;rw[e1];rfl
  ·obtain⟨E',e',q⟩:=zJ3 P Q hs fuel m E2 (by lia) p
   refine⟨E',?_,q⟩
   unfold gWh;rw[e1];simp only[Out.bind,if_true];rw[e2];exact e'
theorem zEJ{n:Nat}{α:Type}{x:Out α}(h:n<10000):few n x=x:=if_pos h
theorem zQG{t:Tg}{tt:Ev->Out (Bool×Ev)}{gm:GM}(f:D->List D)(M:Nat)(P:Ev->Prop):∀{ds acc:List D} {E:Ev},P E->acc.length+ds.length * M<10000->(∀d∈ds,(f d).length<=M) ->
  (∀d∈ds,∀(acc:List D) (E:Ev),acc.length+M<10000->P E->∃E1,gTg t d E=.ok E1/\∃b E2,tt E1=.ok (b,E2)/\((b=true/\∃E3,gm (.lst acc) E2=.ok (.lst (acc++f d),E3)/\P E3)\/(b=false/\f d=[]/\P E2))) ->
  ∃E',zNJ t tt gm ds (.lst acc) E=.ok (.lst (acc++ds.flatMap f),E')/\P E'
 |[],acc,E,h0,_,_,_=>⟨E,by simp[zNJ],h0⟩
 |d::ds,acc,E,h0,hl,hM,hs=>by
  rw[List.length_cons,Nat.succ_mul] at hl
  obtain⟨E1,e1,b,E2,e2,h⟩:=hs d List.mem_cons_self acc E (by lia) h0
  have hd:=hM d List.mem_cons_self
  rcases h with⟨rfl,E3,e3,p⟩|⟨rfl,ef,p⟩
  ·obtain⟨E',e',p'⟩:=zQG f M P (ds:=ds) (acc:=acc++f d) (E:=E3) p (by rw[List.length_append];lia) (λd hd=>hM d (List.mem_cons_of_mem _ hd)) λd hd=>hs d (List.mem_cons_of_mem _ hd)
   refine⟨E',?_,p'⟩
   unfold zNJ;rw[e1];simp only[Out.bind];rw[e2];simp only[if_true];rw[e3];simp only;rw[e',List.flatMap_cons,List.append_assoc]
  ·obtain⟨E',e',p'⟩:=zQG f M P (ds:=ds) (acc:=acc) (E:=E2) p (by lia) (λd hd=>hM d (List.mem_cons_of_mem _ hd)) λd hd=>hs d (List.mem_cons_of_mem _ hd)
   refine⟨E',?_,p'⟩
   unfold zNJ;rw[e1];simp only[Out.bind];rw[e2];simp only[if_false,Bool.false_eq_true];rw[e',List.flatMap_cons,ef,List.nil_append]
theorem zWP{ge:G}{acc:List D}{E E':Ev}{x:D}(h:ge E=.ok (x,E'))(hl:acc.length<10000):zVT ge (.lst acc) E=.ok (.lst (acc++[x]),E'):=zAH h (zEJ hl)
theorem zS3{gi:GI}{k:Nat}{js:List Nat}{t:Tg}{tt:Ev->Out (Bool×Ev)}{gm:GM}{E E1:Ev}{ds:List D}(f:D->List D)(M:Nat)(P:Ev->Prop)(hi:gi E=.ok (ds,E1))(h0:P (zK9 k js E1))(hl:ds.length * M<10000)(hM:∀d∈ds,(f d).length<=M)
  (hs:∀d∈ds,∀(acc:List D) (E:Ev),acc.length+M<10000->P E->∃E1,gTg t d E=.ok E1/\∃b E2,tt E1=.ok (b,E2)/\((b=true/\∃E3,gm (.lst acc) E2=.ok (.lst (acc++f d),E3)/\P E3)\/(b=false/\f d=[]/\P E2)))
  (hb:∀Ec,P Ec->bck E1 Ec k js=E1):zFO gi k js (.lst []) t tt gm E=.ok (.lst (ds.flatMap f),E1):=by
 obtain⟨E',e',p'⟩:=zQG f M P (ds:=ds) (acc:=[]) h0 (by simpa using hl) hM hs
 unfold zFO;rw[hi];simp only[Out.bind];rw[e'];simp only[Out.bind,List.nil_append];rw[hb _ p']
theorem zFU{gi:GI}{k:Nat}{js:List Nat}{t:Tg}{tt:Ev->Out (Bool×Ev)}{ge:G}{E E1:Ev}{ds:List D}(f:D->List D)(P:Ev->Prop)(hi:gi E=.ok (ds,E1))(h0:P (zK9 k js E1))(hl:ds.length<10000)
  (hs:∀d∈ds,∀E,P E->∃E1,gTg t d E=.ok E1/\∃b E2,tt E1=.ok (b,E2)/\((b=true/\∃x E3,ge E2=.ok (x,E3)/\f d=[x]/\P E3)\/(b=false/\f d=[]/\P E2)))
  (hb:∀Ec,P Ec->bck E1 Ec k js=E1):zDW gi k js t tt ge E=.ok (.lst (ds.flatMap f),E1):=by
 by_cases hP:∀d∈ds,∃E,P E
 ·refine zS3 f 1 P hi h0 (by lia) (λd hd=>?_) (λd hd acc E hacc hE=>?_) hb
  ·obtain⟨E,hE⟩:=hP d hd
   obtain⟨_,_,_,_,_,⟨_,x,_,_,ef,_⟩|⟨_,ef,_⟩⟩:=hs d hd E hE
   ·rw[ef];exact Nat.le_refl _
   ·rw[ef];exact Nat.zero_le _
  ·obtain⟨E1,e1,b,E2,e2,⟨hb,x,E3,e3,ef,p⟩|h⟩:=hs d hd E hE
   ·exact⟨E1,e1,b,E2,e2,.inl ⟨hb,E3,by rw[ef];exact zWP e3 (by lia),p⟩⟩
   ·exact⟨E1,e1,b,E2,e2,.inr h⟩
 ·exact absurd (λd hd=>⟨_,h0⟩) hP
def Pl(n:Nat)(d:D):Prop:=∃p,d.py=some p/\p.depth<=n/\p.canLay0=true
def Pls(n:Nat)(ds:List D):Prop:=∃ps,D.pys ds=some ps/\PyData.depthAll ps<=n/\PyData.canLayAll0 ps=true
theorem Pl.int(n:Nat)(i:Int):Pl n (.int i):=⟨_,rfl,Nat.zero_le _,rfl⟩
theorem Pl.non(n:Nat):Pl n .non:=⟨_,rfl,Nat.zero_le _,rfl⟩
theorem Pls.nil(n:Nat):Pls n []:=⟨_,rfl,Nat.zero_le _,rfl⟩
theorem Pls.cons{n:Nat}{d:D}{ds:List D}(h:Pl n d)(t:Pls n ds):Pls n (d::ds):=by
 obtain⟨p,e,a,b⟩:=h
 obtain⟨ps,e2,a2,b2⟩:=t
 exact⟨p::ps,by simp[D.pys,e,e2],by simp only[PyData.depthAll];lia,by simp[PyData.canLayAll0,b,b2]⟩
theorem Pls.tup{n:Nat}{ds:List D}(t:Pls n ds):Pl (n+1) (.tup ds):=by
 obtain⟨ps,e2,a2,b2⟩:=t
 exact⟨.tuple ps,by simp[D.py,e2],by simp only[PyData.depth];lia,b2⟩
theorem Pls.lst{n:Nat}{ds:List D}(t:Pls n ds):Pl (n+1) (.lst ds):=by
 obtain⟨ps,e2,a2,b2⟩:=t
 exact⟨.list ps,by simp[D.py,e2],by simp only[PyData.depth];lia,b2⟩
theorem Pls.of{α:Type}{n:Nat}{f:α->D}:∀{xs:List α},(∀x∈xs,Pl n (f x))->Pls n (xs.map f)
 |[],_=>.nil n
 |x::xs,h=>.cons (h x List.mem_cons_self) (Pls.of λy hy=>h y (List.mem_cons_of_mem _ hy))
theorem Pls.ints(n:Nat)(ns:List Int):Pls n (ns.map D.int):=Pls.of λ_ _=>.int _ _
theorem yAX{d:D}(h:Pl 60 d):eqD d d=.ok (.bl true):=by
 obtain⟨p,e,a,b⟩:=h
 unfold eqD
 simp only[e]
 rw[if_pos (by lia),SeqAt.eqv_refl p b]
theorem zMS{d:D}(h:Pl 60 d):neD d d=.ok (.bl false):=by
 obtain⟨p,e,a,b⟩:=h
 unfold neD
 simp only[e]
 rw[if_pos (by lia),SeqAt.eqv_refl p b];rfl
theorem zH8(a b:Int):neD (.int a) (.int b)=.ok (.bl (decide (a≠b))):=by
 simp only[neD,D.py,PyData.depth,PyData.eqv]
 by_cases h:a=b<;>simp[h]
theorem zS4(a:Int):neD (.int a) .non=.ok (.bl true):=by
 simp[neD,D.py,PyData.depth,PyData.eqv]
theorem zLM{n:Nat}{ds:List D}(h:Pls n ds):neD (.lst ds) (.lst [])=.ok (.bl (!ds.isEmpty)):=by
 obtain⟨ps,e2,a2,b2⟩:=h
 have e0:D.pys []=some []:=by simp[D.pys]
 unfold neD
 simp only[D.py,e2,e0,Option.map]
 rw[if_pos (by simp only[PyData.depth,PyData.depthAll];lia),PyData.eqv]
 cases ds with
 |nil=>rw[e0] at e2;cases e2;rfl
 |cons d ds =>
  cases ps with
  |nil =>
   simp only[D.pys] at e2
   split at e2<;>simp at e2
  |cons p ps=>rfl
theorem zH9:∀ns:List Int,D.pys (ns.map D.int)=some (ns.map PyData.int)
 |[]=>by simp[D.pys]
 |n::ns=>by simp[D.pys,D.py,zH9 ns]
theorem zWQ(x:Int)(ns:List Int):inD (.int x) (.lst (ns.map D.int))=.ok (.bl (decide (x∈ns))):=by
 simp only[inD,zH9,D.py]
 rw[if_pos (show PyData.depth (.int x)<=60 from Nat.zero_le _),zHP]
theorem zLN(x:Int)(ns:List Int):inD (.int x) (.tup (ns.map D.int))=.ok (.bl (decide (x∈ns))):=by
 simp only[inD,zH9,D.py]
 rw[if_pos (show PyData.depth (.int x)<=60 from Nat.zero_le _),zHP]
theorem zLO(ps:List (Int×Int)):zLG [.lst (ps.map zDF)]=.ok (.lst ((zEH ps).map zDF)):=by
 cases ps with
 |nil=>simp[zLG,zA9,zNM,zEH]
 |cons p ps =>
  have:=zC2 (p::ps)
  simp only[zLG]
  rw[this,show zA9 ((p::ps).map zDF)=none from rfl]
theorem zJ4{α:Type}{xs:List α}{i:Int}{x:α}(h0:0<=i)(h:xs[i.toNat]?=some x):atI xs i=some x:=by
 have:=zKT (xs:=xs) (j:=i.toNat) h
 rwa [show((i.toNat:Nat):Int)=i by lia] at this
theorem zQH{n:Nat}{i:Int}(h0:0<=i)(h:i<n):ixN n i=some i.toNat:=by
 unfold ixN;rw[if_pos h0,if_pos h]
section
variable{κ:Type}[DecidableEq κ]
theorem zIA(kvs:List (κ×D))(k:κ)(v:D):zDX (zEE kvs k v) k=some v:=by
 unfold zEE
 split
 ·rename_i h
  unfold zDX
  induction kvs with
  |nil=>simp at h
  |cons kv kvs ih =>
   by_cases e:kv.1=k
   ·simp[e]
   ·simp only[List.any_cons,e,decide_false,Bool.false_or] at h
    have:=ih h
    simpa[e] using this
 ·rename_i h
  unfold zDX
  rw[List.find?_append]
  have:(kvs.find? λkv=>decide (kv.1=k))=none:=by
   rw[List.find?_eq_none]
   intro x hx z
   exact h (List.any_eq_true.mpr ⟨x,hx,z⟩)
  rw[this];simp
theorem zLP(kvs:List (κ×D)){k k':κ}(v:D)(hk:k'≠k):zDX (zEE kvs k v) k'=zDX kvs k':=by
 unfold zEE
 split
 ·rename_i hh
  clear hh
  unfold zDX
  induction kvs with
  |nil=>rfl
  |cons kv kvs ih =>
   rw[List.map_cons]
   by_cases e:kv.1=k
   ·rw[if_pos e,List.find?_cons,List.find?_cons]
    have:¬kv.1=k':=λz=>hk (z.symm.trans e)
    simp only[this,decide_false]
    exact ih
   ·rw[if_neg e,List.find?_cons,List.find?_cons]
    by_cases e2:kv.1=k'
    ·simp[e2]
    ·simp only[e2,decide_false]
     exact ih
 ·unfold zDX
  rw[List.find?_append]
  have:(List.find? (λkv:κ×D=>decide (kv.1=k')) [(k,v)])=none:=by simp[Ne.symm hk]
  rw[this];simp
theorem zIB(kvs:List (κ×D))(k:κ)(v:D):(zEE kvs k v).length<=kvs.length+1:=by
 unfold zEE;split
 ·simp
 ·simp
end
theorem zB0{m:Mr}{gs:List G}{E E':Ev}{ds:List D}{b:Bool}{d d':D}(h1:zBX gs E=.ok (ds,E'))(h2:m (ds.map Sl.val)=.ok (b,d,d')):zB9 m gs E=.ok (d,E'):=zAH h1 (zAH h2 rfl)
theorem zS5{E:Ev}:zBX [] E=.ok ([],E):=rfl
theorem zAR{g:G}{gs:List G}{E E1 E2:Ev}{d:D}{ds:List D}(h1:g E=.ok (d,E1))(h2:zBX gs E1=.ok (ds,E2)):zBX (g::gs) E=.ok (d::ds,E2):=zAH h1 (zAH h2 rfl)
theorem zA6{g:G}{E E1:Ev}{d:D}(h1:g E=.ok (d,E1)):zBX [g] E=.ok ([d],E1):=zAR h1 zS5
theorem zCR{f:List D->Out D}{gs:List G}{E E':Ev}{ds:List D}{d:D}(h1:zBX gs E=.ok (ds,E'))(h2:f ds=.ok d):gN f gs E=.ok (d,E'):=zAH h1 (zAH h2 rfl)
theorem zMT{gs:List G}{E E':Ev}{ds:List D}(h1:zBX gs E=.ok (ds,E'))(h2:ds.length<10000):zDP gs E=.ok (.tup ds,E'):=zAH h1 (zEJ h2)
theorem zER{gs:List G}{E E':Ev}{ds:List D}(h1:zBX gs E=.ok (ds,E'))(h2:ds.length<10000):zBM gs E=.ok (.lst ds,E'):=zAH h1 (zEJ h2)
theorem zCA{g:G}{E E':Ev}{d:D}(h:g E=.ok (d,E')):zF4 g E=.ok (.rt false d E'):=zAH h rfl
theorem zQI{g:G}{E E':Ev}{d:D}(h:g E=.ok (d,E')):zR9 g E=.ok (.rt true d E'):=zAH h rfl
theorem zBC{g:G}{t:Tg}{E E' E2:Ev}{d:D}(h:g E=.ok (d,E'))(h2:gTg t d E'=.ok E2):zCD t g E=.ok (.nx E2):=zAH h (zAH h2 rfl)
theorem zBN{g:G}{i:Nat}{E E':Ev}{d:D}(h:g E=.ok (d,E')):zCL i g E=.ok (.nx (E'.set i (.own false d))):=zAH h rfl
theorem zIC{g:G}{E E':Ev}{d:D}(h:g E=.ok (d,E')):zFM g E=.ok (.nx E'):=zAH h rfl
theorem zAL{f:D->D->Out D}{ga gb:G}{E E1 E2:Ev}{x y d:D}(h1:ga E=.ok (x,E1))(h2:gb E1=.ok (y,E2))(h3:f x y=.ok d):g2 f ga gb E=.ok (d,E2):=zAH h1 (zAH h2 (zAH h3 rfl))
theorem zB4{g:G}{E E':Ev}{b:Bool}(h:g E=.ok (.bl b,E')):gB g E=.ok (b,E'):=zAH h rfl
theorem zQJ{g:G}{E E':Ev}{d:D}{b:Bool}(h:g E=.ok (d,E'))(h2:yC7 d=.ok b):zKK g E=.ok (b,E'):=zAH h (zAH h2 rfl)
theorem zQK{t:Ev->Out (Bool×Ev)}{E E':Ev}{b:Bool}(h:t E=.ok (b,E')):zJL t E=.ok (!b,E'):=zAH h rfl
theorem zZ5{t u:Ev->Out (Bool×Ev)}{E E':Ev}{r:Out (Bool×Ev)}(h:t E=.ok (false,E'))(h2:u E'=r):zT3 t u E=r:=zAH h h2
theorem zFV{t u:Ev->Out (Bool×Ev)}{E E':Ev}{r:Out (Bool×Ev)}(h:t E=.ok (true,E'))(h2:u E'=r):zEZ t u E=r:=zAH h h2
theorem zMU{t u:Ev->Out (Bool×Ev)}{E E':Ev}(h:t E=.ok (false,E')):zEZ t u E=.ok (false,E'):=zAH h rfl
theorem zC7{is:List Nat}{g:G}{E E':Ev}{d:D}(h:g (zDO is E)=.ok (d,E'))(h2:zD7 is E d=true):zD8 is g E=.ok (d,E):=zAH h (if_pos h2)
theorem zWR{is:List Nat}{g:G}{E E':Ev}{d:D}(h:g (zDO is E)=.ok (d,E'))(h2:d.kids=true):zWJ is g E=.ok (d,E):=zAH h (if_pos h2)
theorem zBD{is:List Nat}{g:Ev->Out (Bool×Ev)}{E E':Ev}{d:Bool}(h:g (zDO is E)=.ok (d,E')):zBY is g E=.ok (d,E):=zAH h rfl
theorem zDH{n:Nat}{gb:GS}{sl E':Ev}{b:Bool}{d:D}{r:Out (Bool×D×D)}(h:gb (sl++List.replicate (n-sl.length) .no)=.ok (.rt b d E'))(h2:fin sl E' b d=r):zJQ n gb sl=r:=zAH h h2
theorem zQL{c:String}{g:G}{E E':Ev}{d:D}(h:g E=.ok (d,E')):zGC c g E=.ok (.bl (isB (tyN d) c),E'):=zAH h rfl
theorem zQM{g:G}{E E':Ev}{j:Int}(h:g E=.ok (.int j,E'))(h2:zFQ j):zLI g E=.ok (zGX 0 j.toNat,E'):=zAH h (if_pos h2)
theorem zWS{g g':G}{E E1 E':Ev}{i j:Int}(h:g E=.ok (.int i,E1))(h1:g' E1=.ok (.int j,E'))(h2:zFQ i/\zFQ j):zP6 g g' E=.ok (zGX i (j-i).toNat,E'):=zAH h (zAH h1 (if_pos h2))
theorem zFW{g:G}{E E':Ev}{ds:List D}(h:g E=.ok (.lst ds,E')):zAX g E=.ok (ds,E'):=zAH h rfl
theorem zID{g:G}{E E':Ev}{ds:List D}(h:g E=.ok (.tup ds,E')):zAX g E=.ok (ds,E'):=zAH h rfl
theorem zAZ{i:Nat}{gk gv:G}{E E1 E2:Ev}{t t2:Bool}{d0 d v k d':D}(h0:E[i]?=some (.own t2 d0))(h1:gv E=.ok (v,E1))(h2:gk E1=.ok (k,E2))(h3:E2[i]?=some (.own t d))(h4:zWG d k v=.ok d'):zAO i gk gv E=.ok (.nx (E2.set i (.own t d'))):=by
 unfold zAO;rw[h0];simp only;rw[h1];simp only[Out.bind];rw[h2];simp only[h3];rw[h4]
theorem zMV{m:Mr}{i:Nat}{gs:List G}{E E1:Ev}{t t2:Bool}{d0 d x d':D}{ds:List D}{b:Bool}(h0:E[i]?=some (.own t2 d0))(h1:zBX gs E=.ok (ds,E1))(h2:E1[i]?=some (.own t d))(h3:m (.own true d::ds.map Sl.val)=.ok (b,x,d')):zAQ m i gs E=.ok (x,E1.set i (.own t d')):=by
 unfold zAQ;rw[h0];simp only;rw[h1];simp only[Out.bind,h2];rw[h3]
theorem zEK{i:Nat}{f:List D->List D->Out (D×List D)}{gs:List G}{E E1:Ev}{t t2:Bool}{xs0 xs:List D}{ds ds':List D}{x:D}(h0:E[i]?=some (.own t2 (.lst xs0)))(h1:zBX gs E=.ok (ds,E1))(h2:E1[i]?=some (.own t (.lst xs)))(h3:f xs ds=.ok (x,ds')):zB3 i f gs E=.ok (x,E1.set i (.own t (.lst ds'))):=by
 unfold zB3;rw[h0];simp only;rw[h1];simp only[Out.bind,h2];rw[h3]
theorem zS6{m:Mr}{gf:G}{gs:List G}{E E1 E2:Ev}{d x d':D}{ds:List D}{b:Bool}(h0:gf E=.ok (d,E1))(h1:zBX gs E1=.ok (ds,E2))(h3:m (.own true d::ds.map Sl.val)=.ok (b,x,d')):zGY m gf gs E=.ok (x,E2):=zAH h0 (zAH h1 (zAH h3 rfl))
theorem zS7{m:Mr}{gs:List G}{E E':Ev}{ds:List D}{d d':D}(h1:zBX gs E=.ok (ds,E'))(h2:m (ds.map Sl.val)=.ok (true,d,d')):zGT m gs E=.ok (d,E'):=zAH h1 (zAH h2 rfl)
theorem zUH{gd gk gx:G}{E E1 E2 E3:Ev}{a k x:D}{o:Option D}(h1:gd E=.ok (a,E1))(h2:gk E1=.ok (k,E2))(h3:gx E2=.ok (x,E3))(h4:zJR a k=some o):zP5 gd gk gx E=.ok (o.getD x,E3):=zAH h1 (zAH h2 (zAH h3 (by simp only[h4])))
theorem zWT{ds:List D}{n:Nat}(h:ds.length=n):zE3 [.lst ds]=.ok (.int n):=by subst h;rfl
theorem zZ6{ds:List D}{n:Nat}(h:ds.length=n):zE3 [.tup ds]=.ok (.int n):=by subst h;rfl
theorem zZ7{a b c:List D}(h:a.length+b.length<10000)(e:a++b=c):zC1 (.lst a) (.lst b)=.ok (.lst c):=by subst e;exact zEJ h
theorem zUI{o:Option D}{d:D}(h:o=some d):(match o with|some d=>Out.ok d|none=>.bad)=.ok d:=by subst h;rfl
theorem zZ8{ds:List D}{i:Int}{d:D}(h:atI ds i=some d):ixD (.lst ds) (.int i)=.ok d:=zUI h
theorem yC8{ds:List D}{i:Int}{d:D}(h:atI ds i=some d):ixD (.tup ds) (.int i)=.ok d:=zUI h
theorem zWU{o:Option (Option D)}{d:D}(h:o=some (some d)):(match o with|some (some d)=>Out.ok d|_=>.bad)=.ok d:=by subst h;rfl
theorem yAY{kvs:List (Key×D)}{i:Int}{d:D}(h:zDX kvs (.inl i)=some d):ixD (.dk kvs) (.int i)=.ok d:=zWU (congrArg some h)
theorem zWV{ds:List D}{i:Int}{j:Nat}{v:D}(h:ixN ds.length i=some j):zWG (.lst ds) (.int i) v=.ok (.lst (ds.set j v)):=by
 show(match ixN ds.length i with|some j=>Out.ok (D.lst (ds.set j v))|none=>.bad)=_
 rw[h]
theorem zZ9{kvs:List (Key×D)}{i:Int}{v:D}(h:kvs.length<10000):zWG (.dk kvs) (.int i) v=.ok (.dk (zEE kvs (.inl i) v)):=zEJ h
theorem zG0(x:Int)(ns:List Int):zB1 (.int x) (.tup (ns.map D.int))=.ok (.bl (decide (x∉ns))):=by
 rw[zB1,zLN];simp[Out.bind]
theorem zNU(x:Int)(ns:List Int):zB1 (.int x) (.lst (ns.map D.int))=.ok (.bl (decide (x∉ns))):=by
 rw[zB1,zWQ];simp[Out.bind]
theorem zFX{f:D->List D}{g:Int->D}(p:Int->Bool)(h:∀x,f (.int x)=if p x=true then[g x] else[]):∀l:List Int,(l.map D.int).flatMap f=(l.filter p).map g
 |[]=>rfl
 |x::l=>by
  rw[List.map_cons,List.flatMap_cons,zFX p h l,h x,List.filter_cons]
  by_cases e:p x=true
  ·rw[if_pos e,if_pos e];rfl
  ·rw[if_neg e,if_neg e];rfl
end L2
namespace L2
open PySem PySem.Spec PyProof.Rows
section
variable{X:Cx}
def zUJ(tl:TE):TI:=λσ H R=>tl σ H λx H1=>∃a o kvs,x=.ref a/\H1 a=some (.frz o (.dK kvs))/\R (ItK a o kvs) H1
theorem zS8{tg l:Expr}{tl:TE}(hl:PE X l tl):PI X tg l (zUJ tl):=by
 intro pins s σ H R I h
 refine thn (hl pins s σ H _ I h) λv s1 ⟨x,H1,I1,r1,a,o,kvs,e,ha,q⟩=>?_
 subst e
 cases r1
 obtain⟨ho,hx⟩:=I1.hok a _ ha
 obtain⟨es,ep,rw',e1,e2,e3⟩:=zDV hx
 obtain⟨o',q1,q2,q3⟩:=id rw'.ex
 rw[ho] at q1;cases q1
 refine zDM rw' λh' k ki=>?_
 refine⟨s1.heap.objs.size,[s1.heap.objs.size],_,_,_,rfl,I1.kept (t':=s1.toks) k,zDN a _ o kvs es ep q3 e1,ki,λb hb=>?_,q⟩
 have e:b=s1.heap.objs.size:=by simpa using hb
 subst e
 exact I1.fpOk (Nat.le_refl _) (I1.hok.fresh (Nat.le_refl _))
end
section
variable{K:PySem.W.Frag}{H₀ F H F1 H1:Hp}{τ:Addr}{σ:St}{E:Ev}{ow ow1 M:Addr->Prop}{m:Mr}
theorem Stp.fr(h:∀a,¬ow a)(x:Stp ow F H F1 H1 ow1):Stp M F H F1 H1 M :=
 ⟨λa o e w n _=>x.keep a o e w n (h a),x.dom,x.le,λa o e=>(x.new a o e).imp_right λz=>z.imp_right λq=>(h a q).elim,λ_ q=>.inl q⟩
theorem zLQ{a b:Addr}{o:HO}(e:upd H a o b=none):H b=none:=by
 by_cases z:b=a
 ·rw[z,zAD] at e;cases e
 ·rw[zAE z] at e;exact e
theorem Stp.mine{a:Addr}{o:HO}(h:M a):Stp M F H F (upd H a o) M :=
 ⟨λb u e _ _ n=>by rw[zAE (λz:b=a=>n (by rw[z];exact h))];exact e,λb e=>zLQ e,.refl _,λb u e=>.inl (by rw[e];exact nofun),λ_ q=>.inl q⟩
theorem Stp.born{M':Addr->Prop}{p:Addr}{o:HO}(h:H p=none)(hM:∀b,M' b->M b\/b=p):Stp M F H F (upd H p o) M' :=
 ⟨λb u e _ _ _=>by rw[zAE (zAS e h)];exact e,λb e=>zLQ e,.refl _,λb u e=>.inl (by rw[e];exact nofun),λb q=>(hM b q).imp id λz:b=p=>by rw[z];exact h⟩
theorem yAA(s:Sub F H)(hl:E.length=σ.length)(hv:∀(i:Nat) d,E[i]?=some (.val d)->∃v,σ[i]?=some (some v)/\Rep K F v d)(ho:∀(i:Nat) t d,E[i]?≠some (.own t d)):Sim K H₀ τ F H σ E :=
 ⟨s,hl,hv,λi t d e=>absurd e (ho i t d),λi j t u d d' a e=>absurd e (ho i t d)⟩
noncomputable def slO:Option D->Sl
 |none=>.no
 |some d=>.val d
noncomputable def tbE(net gate:D)(x2 x3 x4 x5:Option D):Ev:=[.val net,.val gate,slO x2,slO x3,slO x4,slO x5,.no]
theorem yAB{net gate:D}{x2 x3 x4 x5:Option D}:∀(i:Nat) t d,(tbE net gate x2 x3 x4 x5)[i]?≠some (.own t d)
 |0,_,_=>λh=>by cases h
 |1,_,_=>λh=>by cases h
 |2,_,_=>λh=>by cases x2<;>cases h
 |3,_,_=>λh=>by cases x3<;>cases h
 |4,_,_=>λh=>by cases x4<;>cases h
 |5,_,_=>λh=>by cases x5<;>cases h
 |6,_,_=>λh=>by cases h
 |_+7,_,_=>λh=>by cases h
theorem zG1{net gate:D}{x2 x3 x4 x5:Option D}(a:Addr):¬owA σ (tbE net gate x2 x3 x4 x5) a:=λ⟨i,t,d,e,_⟩=>yAB i t d e
def OptR(K:PySem.W.Frag)(F:Hp)(u:Option V)(x:Option D):Prop:=∀d,x=some d->∃v,u=some v/\Rep K F v d
theorem OptR.none{u:Option V}:OptR K F u none:=λ_ h=>by cases h
theorem OptR.some{v:V}{d:D}(h:Rep K F v d):OptR K F (some v) (some d):=λ_ e=>by cases e;exact⟨_,rfl,h⟩
theorem OptR.sl{u:Option V}{x:Option D}{d:D}(h:OptR K F u x)(e:slO x=.val d):∃v,u=.some v/\Rep K F v d:=by
 cases x with
 |none=>cases e
 |some y=>cases e;exact h _ rfl
theorem zMW{net gate:D}{x2 x3 x4 x5:Option D}{vn vg:V}{u2 u3 u4 u5 u6:Option V}(s:Sub F H)(hn:Rep K F vn net)(hg:Rep K F vg gate)(h2:OptR K F u2 x2)(h3:OptR K F u3 x3)(h4:OptR K F u4 x4)(h5:OptR K F u5 x5) :
  Sim K H₀ τ F H [some vn,some vg,u2,u3,u4,u5,u6] (tbE net gate x2 x3 x4 x5):=by
 refine yAA s rfl (λi d e=>?_) yAB
 have op:∀{u:Option V} {x:Option D},OptR K F u x->some (slO x)=some (.val d)->∃v,some u=some (some v)/\Rep K F v d:=λh e=>by
  obtain⟨v,rfl,r⟩:=h.sl (Option.some.inj e)
  exact⟨v,rfl,r⟩
 match i,e with
 |0,e=>cases e;exact⟨_,rfl,hn⟩
 |1,e=>cases e;exact⟨_,rfl,hg⟩
 |2,e=>exact op h2 e
 |3,e=>exact op h3 e
 |4,e=>exact op h4 e
 |5,e=>exact op h5 e
 |6,e=>cases e
 |_+7,e=>cases e
noncomputable def kvR(ρ:Int->Addr)(l:List Int):List (Key×V):=l.map λp=>(Sum.inl p,V.ref (ρ p))
structure Rws(F H:Hp)(a:Addr)(ρ:Int->Addr)(l:List Int)(g:Int->List Int):Prop where
 at':∀p∈l,H (ρ p)=some (.lst ((g p).map V.int))/\F (ρ p)=none/\ρ p≠a
 inj:∀p∈l,∀q∈l,ρ p=ρ q->p=q
theorem zMX{ρ:Int->Addr}{p:Int}:∀{l:List Int},p∈l->zE6 (kvR ρ l) (Sum.inl p:Key)=some (.ref (ρ p))
 |x::l,h=>by
  unfold zE6 kvR
  rw[List.map_cons,List.find?_cons]
  by_cases e:x=p
  ·subst e;simp
  ·have:decide ((Sum.inl x:Key)=Sum.inl p)=false:=decide_eq_false λz=>e (Sum.inl.inj z)
   simp only[this]
   exact zMX (l:=l) ((List.mem_cons.mp h).resolve_left (Ne.symm e))
theorem zS9{ρ:Int->Addr}{p:Int}{r:Addr}{l:List Int}(h:p∉l):zEX (kvR ρ l) (Sum.inl p:Key) (.ref r)=kvR (λq=>if q=p then r else ρ q) (l++[p]):=by
 unfold zEX
 rw[if_neg]
 ·unfold kvR
  rw[List.map_append]
  congr 1
  ·exact List.map_congr_left λq hq=>by
    have:q≠p:=λz=>h (z▸hq)
    simp only[this,if_false]
  ·simp
 ·unfold kvR
  simp only[List.any_map,List.any_eq_true,Function.comp,decide_eq_true_eq,not_exists,not_and]
  exact λq hq z=>h (Sum.inl.inj z▸hq)
structure Tb(K:PySem.W.Frag)(net gate:D)(vn vg:V)(ow:Addr->Prop)(Fs Hs F H:Hp)(M:Addr->Prop):Prop where
 sub:Sub F H
 n:Rep K F vn net
 g:Rep K F vg gate
 st:Stp ow Fs Hs F H M
variable{net gate:D}{vn vg:V}{Fs Hs:Hp}{ow₀:Addr->Prop}
theorem Tb.to(T:Tb K net gate vn vg ow₀ Fs Hs F H M){M':Addr->Prop}(s:Stp M F H F1 H1 M')(sb:Sub F1 H1):Tb K net gate vn vg ow₀ Fs Hs F1 H1 M' :=
 ⟨sb,T.n.le s.le,T.g.le s.le,T.st.trans s⟩
theorem Tb.step(T:Tb K net gate vn vg ow₀ Fs Hs F H M)(h:∀a,¬ow a)(s:Stp ow F H F1 H1 ow1)(sb:Sub F1 H1):Tb K net gate vn vg ow₀ Fs Hs F1 H1 M:=T.to (s.fr h) sb
theorem Rws.step{a:Addr}{ρ:Int->Addr}{l:List Int}{g:Int->List Int}(R:Rws F H a ρ l g)(h:∀a,¬ow a)(s:Stp ow F H F1 H1 ow1):Rws F1 H1 a ρ l g :=
 ⟨λp hp=>let ⟨x,y,z⟩:=R.at' p hp;⟨s.keep _ _ x trivial y (h _),s.nF y x trivial (h _),z⟩,R.inj⟩
theorem Sub.off{a:Addr}{o:HO}(s:Sub F H)(h:F a=none):Sub F (upd H a o):=λb u e=>by
 rw[zAE (zAS e h)];exact s b u e
theorem Sub.both{a:Addr}{o:HO}(s:Sub F H):Sub (upd F a o) (upd H a o):=λb u e=>by
 by_cases z:b=a
 ·rw[z,zAD] at e ⊢;exact e
 ·rw[zAE z] at e ⊢;exact s b u e
def yC9(K:PySem.W.Frag)(H₀:Hp)(m:Mr):TS:=yAO (tI K H₀ (zAX (zB9 m [zAB 0,zAB 1,gC .non]))) (zF6 3) (zYT (zQ2 2) (zQ2 3) (yBG yAR))
def tabIn(K:PySem.W.Frag)(H₀:Hp):TS:=yAO (zUJ (zQ2 2)) (zF6 3) (yCH (tT K H₀ (gB (g2 zB1 (zAB 3) (zAB 5)))) (zX4 (tBM K "list" zKU (tOp zH3 (zQ2 2) (zQ2 3)) (zOJ (zQ2 4) yAR))) zX2)
def yB4(K:PySem.W.Frag)(H₀:Hp)(m:Mr):TS:=yAO (zT2 (zQ2 2)) (zF6 4) (zX3 (zXO (tV K H₀ (zB9 m [zAB 0,zAB 1,zAB 4])) (zF6 5)) (tabIn K H₀))
structure TabC(m:Mr)(E:Ev)(net gate:D)(L:List Int)(left:Int->List Int):Prop where
 env:E=[.val net,.val gate,.own false (.dk []),.no,.no,.no,.no]
 all:∃b d',m [.val net,.val gate,.val .non]=.ok (b,.lst (L.map D.int),d')
 nd:L.Nodup
 len:L.length<=1000
 each:∀c∈L,∃b d',m [.val net,.val gate,.val (.int c)]=.ok (b,.lst ((left c).map D.int),d')
noncomputable def zJ5(L:List Int)(left:Int->List Int):D:=.dk (L.map λp=>(Sum.inl p,.lst ((L.filter λc=>decide (p∉left c)).map D.int)))
open Classical in
noncomputable def zWW(m:Mr):GS:=λE=>if h:∃q:(D×D)×List Int×(Int->List Int),TabC m E q.1.1 q.1.2 q.2.1 q.2.2 then .ok (.nx (tbE h.choose.1.1 h.choose.1.2 (some (zJ5 h.choose.2.1 h.choose.2.2)) none none none)) else .bad
theorem tab_of{r:Fl}(h:zWW m E=.ok r):∃net gate L left,TabC m E net gate L left/\r=.nx (tbE net gate (some (zJ5 L left)) none none none):=by
 unfold zWW at h
 split at h
 ·rename_i e
  cases h
  exact⟨_,_,_,_,e.choose_spec,rfl⟩
 ·cases h
theorem zMY{a b:List Int}(h:a.map D.int=b.map D.int):a=b:=by
 have:=congrArg zA9 h
 rw[zEF,zEF] at this
 exact Option.some.inj this
theorem zWX{L:List Int}{left:Int->List Int}(h:TabC m E net gate L left):zWW m E=.ok (.nx (tbE net gate (some (zJ5 L left)) none none none)):=by
 have e:∃q:(D×D)×List Int×(Int->List Int),TabC m E q.1.1 q.1.2 q.2.1 q.2.2:=⟨((net,gate),L,left),h⟩
 unfold zWW
 rw[dif_pos e]
 have z:=e.choose_spec
 generalize e.choose=q at z
 obtain⟨⟨n',g'⟩,L',left'⟩:=q
 have ee:=h.env.symm.trans z.env
 injection ee with e1 ee
 injection ee with e2 ee
 injection e1 with e1
 injection e2 with e2
 simp only at e1 e2 z ⊢
 subst e1 e2
 obtain⟨b,d,x⟩:=h.all
 obtain⟨b',d',y⟩:=z.all
 rw[x] at y
 have eL:L=L':=zMY (by injection y with y;injection y with _ y;injection y with y;injection y)
 subst eL
 have:zJ5 L left'=zJ5 L left:=by
  unfold zJ5
  congr 1
  refine List.map_congr_left λp hp=>?_
  congr 3
  refine List.filter_congr λc hc=>?_
  obtain⟨b,d,x⟩:=h.each c hc
  obtain⟨b',d',y⟩:=z.each c hc
  rw[x] at y
  have:left c=left' c:=zMY (by injection y with y;injection y with _ y;injection y with y;injection y)
  rw[this]
 rw[this]
theorem zJ6{ρ:Int->Addr}{g:Int->List Int}:∀{l:List Int},(∀p∈l,F (ρ p)=some (.lst ((g p).map V.int)))->RepK K F (kvR ρ l) (l.map λp=>(Sum.inl p,.lst ((g p).map D.int)))
 |[],_=>.nil
 |p::l,h=>.cons (.lst (.inl (.inl (h p List.mem_cons_self))) (Reps.ints _)) (zJ6 λq hq=>h q (List.mem_cons_of_mem _ hq))
end
theorem Le.frz{F F':Hp}(l:Le F F'){a:Addr}{o:Obj}{u:HO}(h:F a=some (.frz o u)):F' a=some (.frz o u):=by
 rcases l a _ h with z|⟨z,_⟩|⟨_,_,_,z,_⟩
 ·exact z
 ·exact z.elim
 ·cases z
theorem yB5{p:Prop}[Decidable p]{A B:Prop}(h:¬p)(b:B):if p then A else B:=by rw[if_neg h];exact b
theorem yB6{p:Prop}[Decidable p]{A B:Prop}(h:p)(b:A):if p then A else B:=by rw[if_pos h];exact b
theorem hu1{n:Nat}(h:n+64<cLine):n+1<cLine:=by omega
theorem zEB{L:List Int}{i:Nat}(h:i<L.length)(q:Int):q∈L.take (i+1)↔q∈L.take i\/q=L[i]:=by
 rw[List.take_succ_eq_append_getElem h,List.mem_append,List.mem_singleton]
theorem zIE{L:List Int}(nd:L.Nodup){i:Nat}(h:i<L.length):L[i]∉L.take i:=λz=>by
 have:(L.take (i+1)).Nodup:=nd.sublist (List.take_sublist _ _)
 rw[List.take_succ_eq_append_getElem h,List.nodup_append] at this
 exact this.2.2 _ z _ (List.mem_singleton.mpr rfl) rfl
theorem zUK{ρ:Int->Addr}{L:List Int}{i:Nat}{k:Key}(h:i<L.length)(e:((kvR ρ L).map (·.1))[i]?=some k):k=.inl L[i]:=by
 unfold kvR at e
 rw[List.map_map,List.getElem?_map,List.getElem?_eq_getElem h] at e
 exact(Option.some.inj e).symm
theorem zFY{ρ:Int->Addr}{L:List Int}:(kvR ρ L).length=L.length:=List.length_map ..
theorem Rws.congr{F H:Hp}{a:Addr}{ρ:Int->Addr}{l:List Int}{g g':Int->List Int}(R:Rws F H a ρ l g)(h:∀p∈l,g p=g' p):Rws F H a ρ l g':=⟨λp hp=>by rw[<-h p hp];exact R.at' p hp,R.inj⟩
theorem Rws.app{F H:Hp}{a:Addr}{ρ:Int->Addr}{l:List Int}{g g':Int->List Int}{p c:Int}(R:Rws F H a ρ l g)(hp:p∈l)(h1:g' p=g p++[c])(h2:∀q∈l,q≠p->g' q=g q) :
  Rws F (upd H (ρ p) (.lst ((g p).map V.int++[.int c]))) a ρ l g':=⟨λq hq=>by
 obtain⟨x,y,z⟩:=R.at' q hq
 refine⟨?_,y,z⟩
 by_cases e:q=p
 ·subst e;rw[zAD,h1,List.map_append];rfl
 ·rw[zAE (λw=>e (R.inj q hq p hp w)),x,h2 q hq e],R.inj⟩
theorem zWY{J:It}{g:TG}{tb:TS}{D':Ends}{σ:St}{H:Hp}{n:Nat}(I:Nat->St->Hp->Prop)(h0:I 0 σ H)(hg:∀i σ H,i<n->I i σ H->J.go i H)(hd:∀σ H,I n σ H->J.stop n H/\D'.nx σ H)
  (hs:∀i σ H x H',i<n->I i σ H->J.yld i H x H'->g x σ H' λσ2 H2=>tb { D' with nx:=I (i+1),ct:=I (i+1),bk:=D'.nx } σ2 H2) :
  ∃W:Nat->Nat->St->Hp->Prop,(∃m,W 0 m σ H)/\∀i m σ H,W i m σ H ->
   (J.stop i H/\D'.nx σ H)\/(J.go i H/\∃N:St->Hp->Prop,(∀σ' H',N σ' H'->∃m',m'<m/\W (i+1) m' σ' H')/\∀x H',J.yld i H x H'->g x σ H' λσ2 H2=>tb { D' with nx:=N,ct:=N,bk:=D'.nx } σ2 H2):=by
 refine⟨λi m σ H=>m=n-i/\i<=n/\I i σ H,⟨n,rfl,Nat.zero_le _,h0⟩,λi m σ H h=>?_⟩
 have hm:=h.1
 have hi:=h.2.1
 have hI:=h.2.2
 by_cases e:i<n
 ·exact .inr ⟨hg i σ H e hI,I (i+1),λσ' H' h=>⟨n-(i+1),by omega,rfl,e,h⟩,λx H' y=>hs i σ H x H' e hI y⟩
 ·have e:i=n:=by omega
  rw[e] at hI ⊢
  exact .inl (hd σ H hI)
section
variable{K:PySem.W.Frag}{H₀ F H:Hp}{σ:St}{E:Ev}{m:Mr}{net gate:D}{vn vg:V}{Fs Hs:Hp}{ow₀:Addr->Prop}{a:Addr}{o:Obj}{ρ:Int->Addr}{L xs:List Int}{c:Int}{g:Int->List Int}{v:V}{u3 u4 u5 u6:Option V}{D':Ends}
structure Tm(K:PySem.W.Frag)(net gate:D)(vn vg:V)(ow₀:Addr->Prop)(Fs Hs:Hp)(a:Addr)(o:Obj)(ρ:Int->Addr)(L:List Int)(g:Int->List Int)(F H:Hp):Prop where
 tb:Tb K net gate vn vg ow₀ Fs Hs F H (λb=>∃p∈L,b=ρ p)
 fr:F a=some (.frz o (.dK (kvR ρ L)))
 rw:Rws F H a ρ L g
theorem Tm.congr{g':Int->List Int}(T:Tm K net gate vn vg ow₀ Fs Hs a o ρ L g F H)(h:∀p∈L,g p=g' p):Tm K net gate vn vg ow₀ Fs Hs a o ρ L g' F H:=⟨T.tb,T.fr,T.rw.congr h⟩
theorem Tm.step{ow ow1:Addr->Prop}{F1 H1:Hp}(T:Tm K net gate vn vg ow₀ Fs Hs a o ρ L g F H)(h:∀a,¬ow a)(s:Stp ow F H F1 H1 ow1)(sb:Sub F1 H1):Tm K net gate vn vg ow₀ Fs Hs a o ρ L g F1 H1:=⟨T.tb.step h s sb,s.le.frz T.fr,T.rw.step h s⟩
theorem Tm.app{p:Int}{g':Int->List Int}(T:Tm K net gate vn vg ow₀ Fs Hs a o ρ L g F H)(hp:p∈L)(h1:g' p=g p++[c])(h2:∀q∈L,q≠p->g' q=g q):Tm K net gate vn vg ow₀ Fs Hs a o ρ L g' F (upd H (ρ p) (.lst ((g p).map V.int++[.int c]))) :=
 ⟨T.tb.to (Stp.mine ⟨p,hp,rfl⟩) (T.tb.sub.off (T.rw.at' p hp).2.1),T.fr,T.rw.app hp h1 h2⟩
def InI(K:PySem.W.Frag)(net gate:D)(vn vg:V)(ow₀:Addr->Prop)(Fs Hs:Hp)(a:Addr)(o:Obj)(ρ:Int->Addr)(L:List Int)(g:Nat->Int->List Int)(w4 w5 w6:Option V)(xs:Option (V×List Int))(i:Nat)(σ:St)(H:Hp):Prop :=
 ∃F u3 u4 u5,σ=[some vn,some vg,some (.ref a),u3,u4,u5,w6]/\Tm K net gate vn vg ow₀ Fs Hs a o ρ L (g i) F H/\∀v ys,xs=some (v,ys)->Rep K F v (.lst (ys.map D.int))/\u4=w4/\u5=w5
theorem zNV(T:Tm K net gate vn vg ow₀ Fs Hs a o ρ L g F H)(nd:L.Nodup)(hl:∀p∈L,(g p).length<9000)(rv:Rep K F v (.lst (xs.map D.int)))
  (k:∀F' H' u3,Tm K net gate vn vg ow₀ Fs Hs a o ρ L (λp=>g p++if p∉xs then[c] else[]) F' H'->D'.nx [some vn,some vg,some (.ref a),u3,some (.int c),some v,u6] H') :
  tabIn K H₀ D' [some vn,some vg,some (.ref a),u3,some (.int c),some v,u6] H:=by
 refine⟨_,rfl,a,o,kvR ρ L,rfl,T.tb.sub _ _ T.fr,zWY (n:=L.length) (InI K net gate vn vg ow₀ Fs Hs a o ρ L (λi p=>g p++if p∈L.take i/\p∉xs then[c] else[]) (some (.int c)) (some v) u6 (some (v,xs))) ⟨F,u3,_,_,rfl,T.congr λp _=>by simp,λ_ _ e=>by cases e;exact⟨rv,rfl,rfl⟩⟩ (λi σ H hi h=>?_) (λσ H h=>?_) λi σ H x H2 hlt h y=>?_⟩
 ·obtain⟨F,_,_,_,_,T,_⟩:=h
  exact⟨by rw[zFY];exact hi,T.tb.sub _ _ T.fr⟩
 ·obtain⟨F,u3,u4,u5,rfl,T,hv⟩:=h
  obtain⟨_,rfl,rfl⟩:=hv v xs rfl
  refine⟨⟨by rw[zFY];exact Nat.le_refl _,T.tb.sub _ _ T.fr⟩,k F H u3 (T.congr λp hp=>?_)⟩
  dsimp only
  rw[List.take_length]
  simp only[hp,true_and]
 ·obtain⟨F,u3,u4,u5,rfl,T,hv⟩:=h
  obtain⟨rv,rfl,rfl⟩:=hv v xs rfl
  obtain⟨rfl,kk,rfl,ek⟩:=y
  obtain rfl:=zUK hlt ek
  obtain⟨p,hp⟩:∃p,p=L[i]:=⟨_,rfl⟩
  have hpL:p∈L:=by rw[hp];exact List.getElem_mem hlt
  have hpn:p∉L.take i:=by rw[hp];exact zIE nd hlt
  have tm:∀q,q∈L.take (i+1)↔q∈L.take i\/q=p:=by rw[hp];exact zEB hlt
  have tn:∀q,q≠p->(q∈L.take (i+1)↔q∈L.take i):=λq e=>(tm q).trans ⟨λz=>z.resolve_right e,.inl⟩
  rw[<-hp]
  refine⟨a,F,tbE net gate none (some (.int p)) none (some (.lst (xs.map D.int))),decide (p∉xs),_,zMW T.tb.sub T.tb.n T.tb.g .none (.some (.int p)) .none (.some rv),zB4 (zAL (x:=.int p) (y:=.lst (xs.map D.int)) rfl rfl (zNU p xs)),λF3 H3 s3 S3=>?_⟩
  have T3:=T.step zG1 s3 S3.sub
  have rv3:=rv.le s3.le
  by_cases hx:p∈xs
  ·refine yB5 (by simp[hx]) ⟨F3,some (.int p),_,_,rfl,T3.congr λq hq=>?_,λ_ _ e=>by cases e;exact⟨rv3,rfl,rfl⟩⟩
   by_cases e:q=p
   ·subst e;simp[hx]
   ·simp only[tn q e]
  ·obtain⟨h1,h2,h3⟩:=T3.rw.at' p hpL
   refine yB6 (by simp[hx]) ⟨_,rfl,_,rfl,a,.ref (ρ p),rfl,.inl ⟨kvR ρ L,.inl p,.inr ⟨o,S3.sub _ _ T3.fr⟩,rfl,(zMX hpL).symm⟩,.inl ⟨rfl,_,SqL.of h1⟩,_,rfl,ρ p,_,.int c,rfl,rfl,h1,zDQ ?_,F3,some (.int p),_,_,rfl,?_,λ_ _ e=>by cases e;exact⟨rv3,rfl,rfl⟩⟩
   ·have:=hl p hpL
    rw[List.length_map,List.length_append]
    split
    ·simp only[List.length_singleton];omega
    ·simp only[List.length_nil];omega
   ·refine T3.app hpL ?_ λq hq e=>?_
    ·dsimp only
     rw[if_pos ⟨(tm p).mpr (.inr rfl),hx⟩,if_neg (λz=>hpn z.1),List.append_nil]
    ·simp only[tn q e]
theorem zQN{left:Int->List Int}(T:Tb K net gate vn vg ow₀ Fs Hs F H (λb=>b=a\/∃p∈L,b=ρ p))(nd:L.Nodup)(hlen:L.length<=1000)(fa:F a=none)(ha:H a=some (.dK (kvR ρ L)))(R:Rws F H a ρ L (λ_=>[]))
  (each:∀c∈L,∃b d',m [.val net,.val gate,.val (.int c)]=.ok (b,.lst ((left c).map D.int),d'))
  (k:∀F' H' u3 u4 u5 o,Tm K net gate vn vg ow₀ Fs Hs a o ρ L (λp=>L.filter λc=>decide (p∉left c)) F' H'->D'.nx [some vn,some vg,some (.ref a),u3,u4,u5,u6] H') :
  yB4 K H₀ m D' [some vn,some vg,some (.ref a),u3,u4,u5,u6] H:=by
 refine⟨_,rfl,a,kvR ρ L,rfl,ha,λo=>?_⟩
 have T1:Tm K net gate vn vg ow₀ Fs Hs a o ρ L (λ_=>[]) (upd F a (.frz o (.dK (kvR ρ L)))) (upd H a (.frz o (.dK (kvR ρ L)))):=by
  refine⟨T.to ⟨λb u e _ _ n=>?_,λb e=>zLQ e,.of_gr (Gr.new fa),λb u e=>?_,λb q=>.inl (.inr q)⟩ T.sub.both,zAD,⟨λp hp=>?_,R.inj⟩⟩
  ·rw[zAE (λz=>n (.inl z))];exact e
  ·by_cases z:b=a
   ·exact .inr (.inr (.inl z))
   ·rw[zAE z] at e;exact .inl (by rw[e];exact nofun)
  ·have z:=(R.at' p hp).2.2
   rw[zAE z,zAE z];exact R.at' p hp
 refine zWY (n:=L.length) (InI K net gate vn vg ow₀ Fs Hs a o ρ L (λi p=>(L.take i).filter λc=>decide (p∉left c)) none none u6 none) ⟨_,u3,u4,u5,rfl,T1.congr λp _=>by simp,λ_ _ e=>by cases e⟩ (λi σ H hi h=>?_) (λσ H h=>?_) λi σ H x H2 hlt h y=>?_
 ·obtain⟨F,_,_,_,_,T,_⟩:=h
  exact⟨by rw[zFY];exact hi,T.tb.sub _ _ T.fr⟩
 ·obtain⟨F,u3,u4,u5,rfl,T,_⟩:=h
  exact⟨⟨by rw[zFY];exact Nat.le_refl _,T.tb.sub _ _ T.fr⟩,k F H u3 u4 u5 o (T.congr λp hp=>by dsimp only;rw[List.take_length])⟩
 ·obtain⟨F,u3,u4,u5,rfl,T,_⟩:=h
  obtain⟨rfl,kk,rfl,ek⟩:=y
  obtain rfl:=zUK hlt ek
  obtain⟨c,hc⟩:∃c,c=L[i]:=⟨_,rfl⟩
  obtain⟨b,d',hm⟩:=each c (by rw[hc];exact List.getElem_mem hlt)
  rw[<-hc]
  refine⟨a,F,tbE net gate none none (some (.int c)) none,.lst ((left c).map D.int),_,zMW T.tb.sub T.tb.n T.tb.g .none .none (.some (.int c)) .none,zB0 (ds:=[net,gate,.int c]) rfl hm,λv F3 H3 s3 S3 r3=>?_⟩
  refine zNV (c:=c) (T.step zG1 s3 S3.sub) nd (λp _=>?_) r3 λF5 H5 u3' T5=>⟨F5,u3',_,_,rfl,T5.congr λp hp=>?_,λ_ _ e=>by cases e⟩
  ·have:=List.length_filter_le (λc=>decide (p∉left c)) (L.take i)
   rw[List.length_take] at this
   dsimp only
   omega
  ·dsimp only
   rw[List.take_succ_eq_append_getElem hlt,List.filter_append,<-hc]
   congr 1
   by_cases e:p∈left c
   ·simp[e]
   ·simp[e]
theorem zWZ{α:Type}{l:List α}{n:Nat}(h:n+1=l.length):∃a t,l=a::t/\n=t.length:=by
 cases l with
 |nil=>simp at h
 |cons a t=>exact⟨a,t,rfl,Nat.succ.inj h⟩
theorem yB7{α:Type}{l:List α}(h:7=l.length):∃a b c d e f g,l=[a,b,c,d,e,f,g]:=by
 obtain⟨a,t0,e0,h0⟩:=zWZ h
 obtain⟨b,t1,e1,h1⟩:=zWZ h0
 obtain⟨c,t2,e2,h2⟩:=zWZ h1
 obtain⟨d,t3,e3,h3⟩:=zWZ h2
 obtain⟨e,t4,e4,h4⟩:=zWZ h3
 obtain⟨f,t5,e5,h5⟩:=zWZ h4
 obtain⟨g,t6,e6,h6⟩:=zWZ h5
 exact⟨a,b,c,d,e,f,g,by rw[e0,e1,e2,e3,e4,e5,e6,List.eq_nil_of_length_eq_zero h6.symm]⟩
def yD3(K:PySem.W.Frag)(net gate:D)(vn vg:V)(ow:Addr->Prop)(F H F1:Hp)(a:Addr)(L:List Int)(u4 u5 u6:Option V)(i:Nat)(σ':St)(H':Hp):Prop :=
 ∃F' u3 ρ,σ'=[some vn,some vg,some (.ref a),u3,u4,u5,u6]/\Tb K net gate vn vg ow F H F' H' (λb=>b=a\/∃p∈L.take i,b=ρ p)/\Le F1 F'/\F' a=none/\H' a=some (.dK (kvR ρ (L.take i)))/\Rws F' H' a ρ (L.take i) (λ_=>[])
open Classical in
theorem zTA{gr:GS}(h:tS K H₀ (zA2 (zWW m) gr) D' σ H):zX3 (yC9 K H₀ m) (zX3 (yB4 K H₀ m) (tS K H₀ gr)) D' σ H:=by
 obtain⟨τ,F,E,r,S,hg,k⟩:=h
 obtain⟨r1,e1,hg⟩:=Out.bind_ok hg
 obtain⟨net,gate,L,left,⟨rfl,⟨b0,d0,hall⟩,nd,hlen,each⟩,rfl⟩:=tab_of e1
 obtain⟨w0,w1,w2,u3,u4,u5,u6,rfl⟩:=yB7 S.len
 obtain⟨vn,hvn,rn⟩:=S.val 0 net rfl
 obtain⟨vg,hvg,rg⟩:=S.val 1 gate rfl
 obtain⟨a,ha,fa,⟨kv0,hk0,rk0⟩,na,_⟩:=S.own 2 false (.dk []) rfl
 cases rk0;cases hvn;cases hvg;cases ha
 have ow0:owA [some vn,some vg,some (.ref a),u3,u4,u5,u6] [.val net,.val gate,.own false (.dk []),.no,.no,.no,.no] a:=⟨2,false,.dk [],rfl,rfl⟩
 generalize owA [some vn,some vg,some (.ref a),u3,u4,u5,u6] [.val net,.val gate,.own false (.dk []),.no,.no,.no,.no]=ow at ow0 k
 refine⟨τ,F,tbE net gate none none none none,L.map D.int,_,zMW S.sub rn rg .none .none .none .none,zFW (zB0 (ds:=[net,gate,.non]) rfl hall),λJ F1 H1 s1 S1 w1=>?_⟩
 have T0:Tb K net gate vn vg ow F H F H (λb=>b=a):=⟨S.sub,rn,rg,Stp.refl.weak λb h=>by rw[h];exact ow0⟩
 have T1:=T0.step zG1 s1 S1.sub
 have fa1:F1 a=none:=s1.nF fa hk0 trivial (zG1 _)
 have ha1:H1 a=some (.dK []):=s1.keep _ _ hk0 trivial fa (zG1 _)
 refine zWY (n:=L.length) (yD3 K net gate vn vg ow F H F1 a L u4 u5 u6) ⟨F1,u3,λ_=>a,rfl,T1.to (Stp.refl.weak λb h=>h.elim id λ⟨p,hp,_⟩=>by simp at hp) T1.sub,.refl _,fa1,ha1,⟨λp hp=>by simp at hp,λp hp=>by simp at hp⟩⟩ (λi σ Hj hi h=>?_) (λσ Hj h=>?_) λi σ Hj x H2 hlt h y=>?_
 ·obtain⟨F',_,_,_,T',l',_⟩:=h
  exact(w1 i F' Hj l' T'.sub).1 (by rw[List.length_map];exact hi)
 ·obtain⟨F',u3,ρ,rfl,T',l',fa',ha',R'⟩:=h
  refine⟨(w1 L.length F' Hj l' T'.sub).2.1 (by rw[List.length_map]),?_⟩
  rw[List.take_length] at T' ha' R'
  refine zQN (H₀:=H₀) (m:=m) (left:=left) T' nd hlen fa' ha' R' each λF5 H5 u3 u4 u5 o Tm5=>?_
  have T5:=Tm5.tb
  have hf5:=Tm5.fr
  have R5:=Tm5.rw
  -- all is shared from now on
  have low:∀b u,(if ∃p∈L,b=ρ p then H5 b else F5 b)=some u->H5 b=some u:=λb u e=>by
   by_cases z:∃p∈L,b=ρ p
   ·rw[if_pos z] at e;exact e
   ·rw[if_neg z] at e;exact T5.sub b u e
  have hl:Le F5 (λb=>if ∃p∈L,b=ρ p then H5 b else F5 b):=λb u e=>.inl (by
   by_cases z:∃p∈L,b=ρ p
   ·show(if ∃p∈L,b=ρ p then H5 b else F5 b)=_
    rw[if_pos z];exact T5.sub b u e
   ·show(if ∃p∈L,b=ρ p then H5 b else F5 b)=_
    rw[if_neg z];exact e)
  have T6:Tb K net gate vn vg ow F H (λb=>if ∃p∈L,b=ρ p then H5 b else F5 b) H5 (λ_=>False):=by
   refine T5.to (M':=λ_=>False) ⟨λb u e _ _ _=>e,λb e=>e,hl,λb u e=>?_,λb z=>False.elim z⟩ low
   by_cases z:∃p∈L,b=ρ p
   ·exact .inr (.inr z)
   ·have e:(if ∃p∈L,b=ρ p then H5 b else F5 b)=_:=e
    rw[if_neg z] at e;exact .inl (by rw[e];exact nofun)
  refine⟨τ,_,_,r,zMW low T6.n T6.g (.some (.dk (.inr ⟨o,hl.frz hf5⟩) (zJ6 λp hp=>?_))) .none .none .none,hg,k.pre (T6.st.weak λb z=>(zG1 b z).elim)⟩
  show(if ∃p'∈L,ρ p=ρ p' then H5 (ρ p) else F5 (ρ p))=_
  rw[if_pos ⟨p,hp,rfl⟩]
  exact(R5.at' p hp).1
 ·obtain⟨F',u3,ρ,rfl,T',l',fa',ha',R'⟩:=h
  obtain⟨F2,n2,r2⟩:=(w1 i F' Hj l' T'.sub).2.2 x H2 (.int L[i]) (by rw[List.getElem?_map,List.getElem?_eq_getElem hlt];rfl) y
  obtain⟨p,hp⟩:∃p,p=L[i]:=⟨_,rfl⟩
  have hpn:p∉L.take i:=by rw[hp];exact zIE nd hlt
  rw[<-hp] at r2
  cases r2
  have no:∀a:Addr,¬(λ_:Addr=>False) a:=λ_ z=>z
  have T2:=T'.step no n2.1 n2.2
  have R2:=R'.step no n2.1
  have fa2:F2 a=none:=n2.1.nF fa' ha' trivial (no a)
  have ha2:H2 a=some (.dK (kvR ρ (L.take i))):=n2.1.keep _ _ ha' trivial fa' (no a)
  refine⟨Nat.zero_le _,λq hq=>⟨_,rfl,_,rfl,a,_,rfl,DPut.k (k:=.inl p) (by rw[zAE (zAS ha2 hq)];exact ha2) ?_,F2,some (.int p),λz=>if z=p then q else ρ z,rfl,?_,l'.trans n2.1.le,fa2,?_,?_⟩⟩
  ·rw[zFY,List.length_take];exact zDQ (by omega)
  ·have fq:F2 q=none:=Sim.notF n2.2 hq
   refine(T2.to (M':=λb=>b=a\/∃z∈L.take (i+1),b=if z=p then q else ρ z) (Stp.born hq λb h=>?_) (n2.2.off fq)).to (Stp.mine (.inl rfl)) ((n2.2.off fq).off fa2)
   rcases h with h|⟨z,hz,h⟩
   ·exact .inl (.inl h)
   ·by_cases e:z=p
    ·rw[if_pos e] at h;exact .inr h
    ·rw[if_neg e] at h
     exact .inl (.inr ⟨z,((zEB hlt z).mp hz).resolve_right (by rw[<-hp];exact e),h⟩)
  ·rw[zAD,zS9 hpn,List.take_succ_eq_append_getElem hlt,<-hp]
  ·have ne:∀z∈L.take i,ρ z≠q:=λz hz=>zAS (R2.at' z hz).1 hq
   have qa:q≠a:=Ne.symm (zAS ha2 hq)
   have mem:∀z,z∈L.take (i+1)->z≠p->z∈L.take i:=λz hz e=>((zEB hlt z).mp hz).resolve_right (by rw[<-hp];exact e)
   refine⟨λz hz=>?_,λz hz z' hz' h=>?_⟩
   ·by_cases e:z=p
    ·simp only[e,if_true]
     rw[zAE qa,zAD]
     exact⟨rfl,Sim.notF n2.2 hq,qa⟩
    ·simp only[e,if_false]
     obtain⟨x,y,w⟩:=R2.at' z (mem z hz e)
     rw[zAE w,zAE (ne z (mem z hz e))]
     exact⟨x,y,w⟩
   ·by_cases e:z=p
    ·by_cases e':z'=p
     ·rw[e,e']
     ·simp only[e,e',if_true,if_false] at h
      exact absurd h.symm (ne z' (mem z' hz' e'))
    ·by_cases e':z'=p
     ·simp only[e,e',if_true,if_false] at h
      exact absurd h (ne z (mem z hz e))
     ·simp only[e,e',if_false] at h
      exact R2.inj z (mem z hz e) z' (mem z' hz' e') h
theorem zW0{X:Cx}{gr:GS}{s2 s3:Stmt}{rest:List Stmt}(h2:PS X s2 (yC9 X.K X.H₀ m))(h3:PS X s3 (yB4 X.K X.H₀ m))(hr:VSs X rest gr):VSs X (s2::s3::rest) (zA2 (zWW m) gr):=(zCW h2 (zCW h3 hr)).imp λ_ _ _ h=>zTA h
end
end L2
namespace My
open PySem L2
noncomputable def top(i:Nat):Stmt:=PySem.Challenge.pw_waymusts_k06_holders_hang_together.main.body.getD i (.Pass ⟨0,0,0,0⟩)
structure Bt(mg:Str->Option Value):Prop where
 b_bool:mg "bool"=none
 b_enumerate:mg "enumerate"=none
 b_isinstance:mg "isinstance"=none
 b_len:mg "len"=none
 b_list:mg "list"=none
 b_max:mg "max"=none
 b_min:mg "min"=none
 b_range:mg "range"=none
 b_sorted:mg "sorted"=none
 b_tuple:mg "tuple"=none
noncomputable abbrev zA5:Stmt:=top 4
noncomputable abbrev zBO:Stmt:=top 12
noncomputable abbrev zBP:Stmt:=top 13
noncomputable abbrev zBQ:Stmt:=top 14
noncomputable abbrev zBG:Stmt:=top 17
noncomputable abbrev zBH:Stmt:=top 5
noncomputable abbrev zA3:Stmt:=top 15
noncomputable abbrev zA7:Stmt:=top 6
noncomputable abbrev zB7:Stmt:=top 16
noncomputable abbrev zCS:Stmt:=top 7
noncomputable abbrev zCT:Stmt:=top 9
noncomputable abbrev zCU:Stmt:=top 10
noncomputable abbrev zBI:Stmt:=top 18
noncomputable abbrev zIF:Stmt:=top 19
theorem zW1{J:It}{n:Nat}{g:TG}{tt:TT}{te:TE}{acc:Addr}{σ₀:St}{N:St->Hp->Prop}{H1:Hp}(Pv:Nat->List V->St->Hp->Prop)(h0:Pv 0 [] σ₀ (upd H1 acc (.lst [])))(ha:∀i ys σ H,i<=n->Pv i ys σ H->H acc=some (.lst ys))
  (hs:∀i ys σ H,i<n->Pv i ys σ H->J.go i H/\∀x H',J.yld i H x H'->g x σ H' λσ2 H2=>tt σ2 H2 λb H3 =>
   if b=true then te σ2 H3 λy H4=>H4 acc=some (.lst ys)/\ys.length<sizeLine/\∃m',m'<n-i/\m'=n-(i+1)/\i+1<=n/\Pv (i+1) (ys++[y]) σ2 (upd H4 acc (.lst (ys++[y])))
   else ∃m',m'<n-i/\m'=n-(i+1)/\i+1<=n/\Pv (i+1) ys σ2 H3)
  (hd:∀ys σ H,Pv n ys σ H->J.stop n H/\N σ H) (mg:∀x σ H P P',(∀σ2 H2,P σ2 H2->P' σ2 H2)->g x σ H P->g x σ H P') (mt:∀σ H P P',(∀b H2,P b H2->P' b H2)->tt σ H P->tt σ H P') (me:∀σ H P P',(∀v H2,P v H2->P' v H2)->te σ H P->te σ H P'):tWalkC J g tt (zI9 acc te) σ₀ (upd H1 acc (.lst [])) N:=by
 refine⟨λi m σ H=>m=n-i/\i<=n/\∃ys,Pv i ys σ H,⟨n,by lia,Nat.zero_le _,[],h0⟩,?_⟩
 rintro i m σ H ⟨rfl,hi,ys,p⟩
 by_cases hlt:i<n
 ·obtain⟨go,st⟩:=hs i ys σ H hlt p
  refine .inr ⟨go,λx H' y=>mg _ _ _ _ _ (λσ2 H2 q=>mt _ _ _ _ (λb H3 q=>?_) q) (st x H' y)⟩
  cases b with
  |true =>
   rw[if_pos rfl] at q ⊢
   exact me _ _ _ _ (λv H4 ⟨q1,q2,m',a,b,c,q3⟩=>⟨ys,q1,q2,m',a,b,c,_,q3⟩) q
  |false =>
   rw[if_neg Bool.false_ne_true] at q ⊢
   obtain⟨m',a,b,c,q3⟩:=q
   exact⟨m',a,b,c,_,q3⟩
 ·have e:i=n:=by lia
  subst e
  exact .inl (hd ys σ H p)
theorem zDZ{α:Type}(f:α->Bool){l:List α}{i:Nat}{x:α}(h:l[i]?=some x):(l.take (i+1)).filter f=(l.take i).filter f++(if f x=true then[x] else[]):=by
 obtain⟨hi,e⟩:=List.getElem?_eq_some_iff.mp h
 rw[List.take_succ_eq_append_getElem hi,List.filter_append,e]
 by_cases hf:f x=true
 ·simp[hf]
 ·simp[hf]
theorem zMZ{K:PySem.W.Frag}{H:Hp}:∀{zs:List V} {ps:List (Int×Int)} {i:Nat} {z:V},PairsAt K H zs ps->zs[i]?=some z->∃(q:Addr) (x y:Int),z=.ref q/\SqT K H q [.int x,.int y]/\ps[i]?=some (x,y)
 |_,_,_,_,.nil,h=>by simp at h
 |_,_,0,_,.cons ⟨q,e,s⟩ t,h=>by simp at h;subst h;exact⟨q,_,_,e,s,rfl⟩
 |_,_,i+1,_,.cons _ t,h=>by simp at h;simpa using zMZ t h
theorem Gr.acc{H1 H':Hp}{acc:Addr}{o:HO}(g:Gr H1 H')(h:H1 acc=none):Gr H1 (upd H' acc o):=λb u e=>by
 rw[zAE (zAS e h)];exact g b u e
def yD4(K:PySem.W.Frag)(H:Hp)(q:Addr)(many:Int)(ps:List (Int×Int)):Prop:=∃(t:Addr) (zs:List V),SqT K H q [.int many,.ref t]/\SqT K H t zs/\PairsAt K H zs ps
noncomputable def zC3(ps:List (Int×Int))(j:Nat):List Int:=(ps.filter λp=>decide (p.1=(j:Int))).map (·.2)
def zW2(H:Hp)(L:Addr)(rs:List Addr)(many:Int)(ps:List (Int×Int)):Prop:=H L=some (.lst (rs.map V.ref))/\(rs.length:Int)=many/\∀(j:Nat) (hj:j<rs.length),H rs[j]=some (.lst ((zC3 ps j).map V.int))
def zW3(K:PySem.W.Frag):Sp:=λvs H Q _=>∃(q:Addr) (many:Int) (ps:List (Int×Int)),vs=[.ref q]/\yD4 K H q many ps/\ps.length<=1000/\0<=many/\many<=100/\(∀p∈ps,0<=p.1/\p.1<many) /\
 ∀(L:Addr) (H':Hp) (rs:List Addr),Gr H H'->zW2 H' L rs many ps->H L=none->(∀r∈rs,H r=none)->Q (.ref L) H'
section
variable{P:Program}{w:World}{K:PySem.W.Frag}{mg:Str->Option Value}{base:Heap}
theorem scNX:FnScope ["net","many","lanes","nexts","one","other"] ["net"] (zAJ zA5):=⟨rfl,rfl,rfl,by decide +kernel,rfl,by decide +kernel,by decide +kernel⟩
theorem yD5:((["place"]:List Str)++([]:List Str)).Nodup:=by decide +kernel
theorem zTB{f:Addr}{fd:FuncData}(F:Fun K "next_places" "next_places" zA5 f fd)(T:Bt mg):FnOk P w K mg base CX0 1 f fd ["net"] (zW3 K):=by
 refine F.ok scNX (λvs H Q E h=>?_) (λcdv A outer s H vs Q E hr h=>?_)
 ·obtain⟨q,many,ps,rfl,_⟩:=h
  rfl
 ·obtain⟨q,many,ps,rfl,⟨t,zs,hq,ht,hps⟩,hpl,hm0,hm1,hrg,q0⟩:=h
  refine⟨_,zCW (zN9 (pv 0) (zN8 rfl (zD1 (zCX (i:=1) scNX.nd rfl (Or.inl rfl)) (zD1 (zCX (i:=2) scNX.nd rfl (Or.inl rfl)) pgs_nil))))
   (zCW (zGO (i:=3) (own:=["place"]) (caps:=[]) (js:=[]) ⟨rfl,rfl,by decide +kernel,by decide +kernel,by decide +kernel,rfl,zQ7,rfl,zQ7,zQ7,by decide +kernel,by decide +kernel⟩ rfl (zIT rfl T.b_range (zBF (pv 1) pa_nil))
     (λC s H fp=>zCX (i:=0) yD5 rfl (Or.inl rfl) (Or.inr rfl)) (λC s H fp=>pts_nil) (λC s H fp=>zL5 pa_nil) scNX.nd rfl rfl rfl)
   (zCW (zGI PassesOwn.never rfl (zTU (pv 2)) (zN8 rfl (zD1 (zCX (i:=4) scNX.nd rfl (Or.inl rfl)) (zD1 (zCX (i:=5) scNX.nd rfl (Or.inl rfl)) pgs_nil)))
    (zDT (zKR (zRO PySem.F.plainAttrs_list PySem.F.slot_list_append PySem.F.type_list_append zD4 (zU5 ix_list (pv 3) (pv 4) (λ_ _=>rfl)) (zBF (pv 5) pa_nil)))))
   (zDT (zN7 (pv 3))))),?_⟩
  have sm:∀n:Nat,n<=1000->n<=sizeLine:=λn h=>Nat.le_of_lt (zFJ h)
  have hzl:zs.length=ps.length:=Paired.length hps
  refine⟨_,rfl,q,_,rfl,hq,rfl,_,_,rfl,_,_,rfl,rfl,?_⟩
  refine⟨_,rfl,_,rfl,by lia,by lia,λacc hacc=>?_⟩
  refine zW1 (J:=Itr 0 many.toNat) (g:=zF6 0) (tt:=yCU) (te:=yBG yAR) (n:=many.toNat) (λi ys σ H'=>∃(u:Option V) (rs:List Addr),σ=[u]/\ys=rs.map V.ref/\rs.length=i/\rs.Nodup/\(∀r∈rs,H' r=some (.lst [])/\H r=none/\r≠acc)/\H' acc=some (.lst ys)/\Gr H H')
   ⟨none,[],rfl,rfl,rfl,List.nodup_nil,zQ7,zAD,Gr.new hacc⟩ (λi ys σ H' _ ⟨_,_,_,_,_,_,_,h,_⟩=>h) ?_ ?_ (λx σ H P P' h q=>h _ _ q) (λσ H P P' h q=>h _ _ q) (λσ H P P' h q=>⟨q.1,λp hp=>h _ _ (q.2 p hp)⟩)
  ·rintro i ys σ H' hi ⟨u,rs,rfl,rfl,hl,nd,hrs,ha,gr⟩
   refine⟨hi,?_⟩
   rintro x H'' ⟨rfl,rfl⟩
   refine⟨sm 0 (by decide),λpt hpt=>?_⟩
   have hpa:pt≠acc:=Ne.symm (zAS ha hpt)
   have hp0:H pt=none:=by
    cases e:H pt with
    |none=>rfl
    |some o=>have:=gr _ _ e;rw[hpt] at this;cases this
   have hnr:pt∉rs:=λz=>by have:=(hrs pt z).1;rw[hpt] at this;cases this
   refine⟨Gr.new hpt _ _ ha,zFJ (by rw[List.length_map];lia),_,by lia,rfl,by lia,_,rs++[pt],rfl,by simp,by simp[hl],?_,λr hr'=>?_,zAD,Gr.acc (gr.trans (Gr.new hpt)) hacc⟩
   ·rw[List.nodup_append]
    exact⟨nd,List.nodup_cons.mpr ⟨by simp,List.nodup_nil⟩,λa ha' b hb'=>by rw[List.mem_singleton.mp hb'];exact λz=>hnr (z▸ha')⟩
   ·rcases List.mem_append.mp hr' with h|h
    ·obtain⟨h1,h2,h3⟩:=hrs r h
     exact⟨by rw[zAE h3,zAE (zAS h1 hpt)];exact h1,h2,h3⟩
    ·rw[List.mem_singleton.mp h]
     exact⟨by rw[zAE hpa,zAD],hp0,hpa⟩
  ·rintro ys σ H2 ⟨u,rs,rfl,rfl,hl,nd,hrs,ha,gr⟩
   refine⟨Nat.le_refl _,?_⟩
   refine⟨_,rfl,t,rfl,⟨_,ht.gr gr⟩,zUX (K:=K) (a:=t) (xs:=zs) (λi σ H3=>∃u4 u5:Option V,σ=[some (.ref q),some (.int many),some (.ref t),some (.ref acc),u4,u5]/\H3 acc=some (.lst (rs.map V.ref))/\(∀(j:Nat) (hj:j<rs.length),H3 rs[j]=some (.lst ((zC3 (ps.take i) j).map V.int)))/\Gr H H3)
    ⟨none,none,rfl,ha,λj hj=>(hrs _ (List.getElem_mem hj)).1,gr⟩ (λi σ H3 _ ⟨_,_,_,_,_,g⟩=>ht.gr g) ?_ ?_⟩
   ·rintro i z σ H3 hi ⟨u4,u5,rfl,ha3,hr3,g3⟩
    obtain⟨pq,x,y,rfl,hpq,hpi⟩:=zMZ (hps.gr g3) hi
    obtain⟨x0,x9⟩:=hrg _ (List.mem_of_getElem? hpi)
    have hxl:x.toNat<rs.length:=by rw[hl];have:=x9;have:=x0;simp only at *;lia
    have hxc:((x.toNat:Nat):Int)=x:=by simp only at x0;lia
    have hat:atI (rs.map V.ref) x=some (.ref rs[x.toNat]):=by
     have z:=zKT (xs:=rs.map V.ref) (j:=x.toNat) (v:=.ref rs[x.toNat]) (by rw[List.getElem?_map,List.getElem?_eq_getElem hxl];rfl)
     rw[hxc] at z
     exact z
    have hil:=(List.getElem?_eq_some_iff.mp hpi).1
    have hsl:(zC3 (ps.take i) x.toNat).length<=1000:=by
     unfold zC3
     rw[List.length_map]
     have h1:=List.length_filter_le (λp:Int×Int=>decide (p.1=((x.toNat:Nat):Int))) (ps.take i)
     rw[List.length_take] at h1
     lia
    refine⟨pq,_,rfl,hpq,rfl,_,_,rfl,_,_,rfl,rfl,?_⟩
    refine⟨_,rfl,_,rfl,acc,_,_,_,rfl,rfl,SqL.of ha3,hat,.inl ⟨rfl,_,SqL.of (hr3 _ hxl)⟩,_,rfl,rs[x.toNat],_,_,rfl,rfl,hr3 _ hxl,zFJ (by rw[List.length_map];exact hsl),_,_,rfl,?_,λj hj=>?_,?_⟩
    ·rw[zAE (Ne.symm (hrs _ (List.getElem_mem hxl)).2.2)]
     exact ha3
    ·have hf:=zDZ (λp:Int×Int=>decide (p.1=(j:Int))) hpi
     by_cases hjx:j=x.toNat
     ·subst hjx
      rw[zAD]
      unfold zC3
      rw[hf,if_pos (decide_eq_true (show x=((x.toNat:Nat):Int) from hxc.symm))]
      simp
     ·have hne:rs[j]≠rs[x.toNat]:=λz=>by
       rcases Nat.lt_or_gt_of_ne hjx with h|h
       ·exact List.pairwise_iff_getElem.mp nd _ _ hj hxl h z
       ·exact List.pairwise_iff_getElem.mp nd _ _ hxl hj h z.symm
      rw[zAE hne,hr3 j hj]
      unfold zC3
      rw[hf,if_neg (by simp only[decide_eq_true_eq];lia),List.append_nil]
    ·exact Gr.acc g3 (hrs _ (List.getElem_mem hxl)).2.1
   ·rintro σ H3 ⟨u4,u5,rfl,ha3,hr3,g3⟩
    rw[hzl,List.take_length] at hr3
    exact⟨_,rfl,q0 acc H3 rs g3 ⟨ha3,by rw[hl];lia,hr3⟩ hacc λr hr'=>(hrs r hr').2.1⟩
end
noncomputable def zGE(many:Int)(ps:List (Int×Int)):D:=.lst ((List.range many.toNat).map λj=>.lst ((zC3 ps j).map D.int))
noncomputable def yAZ(many:Int)(ps:List (Int×Int)):D:=.tup [.int many,.tup (ps.map zDF)]
def nxC(sl:Ev)(q:Int×List (Int×Int)):Prop:=sl=[.val (yAZ q.1 q.2)]/\0<=q.1/\q.1<=100/\q.2.length<=1000/\∀p∈q.2,0<=p.1/\p.1<q.1
open Classical in
noncomputable def zA0:Mr:=λsl=>if h:∃q,nxC sl q then .ok (false,zGE h.choose.1 h.choose.2,.non) else .bad
theorem yB8{sl:Ev}{r:Bool×D×D}(h:zA0 sl=.ok r):∃many ps,nxC sl (many,ps)/\r=(false,zGE many ps,.non):=by
 unfold zA0 at h
 by_cases e:∃q,nxC sl q
 ·rw[dif_pos e] at h;cases h;exact⟨_,_,e.choose_spec,rfl⟩
 ·rw[dif_neg e] at h;cases h
theorem yB9{many:Int}{ps:List (Int×Int)}(h:nxC [.val (yAZ many ps)] (many,ps)):zA0 [.val (yAZ many ps)]=.ok (false,zGE many ps,.non):=by
 have e:∃q,nxC [.val (yAZ many ps)] q:=⟨_,h⟩
 unfold zA0
 rw[dif_pos e]
 have z:=e.choose_spec.1
 generalize e.choose=q at z
 injection z with z _
 injection z with z
 injection z with z
 injection z with z1 z2
 injection z1 with z1
 injection z2 with z2 _
 injection z2 with z2
 have:=congrArg zDG z2
 rw[zC2,zC2] at this
 injection this with this
 rw[<-z1,<-this]
theorem Reps.pairsAt{K:PySem.W.Frag}{F H:Hp}(s:Sub F H):∀{ps:List (Int×Int)} {ys:List V},Reps K F ys (ps.map zDF)->PairsAt K H ys ps:=λr=>Paired.mapP (r.prs s) λ_ _ ⟨q,e,h⟩=>⟨q,e,SqT.of h⟩
theorem zGF{P:Program}{w:World}{K:PySem.W.Frag}{mg:Str->Option Value}{base:Heap}{f:Addr}{fd:FuncData}(Fn:Fun K "next_places" "next_places" zA5 f fd)(T:Bt mg):FnOk P w K mg base CX0 1 f fd ["net"] (spV K 1 zA0) :=
 FnOk.imp (zTB Fn T) λvs H Q E h=>by
  obtain⟨hl,τ,F,sl,b,d,d',S,sh,hm,k⟩:=h
  obtain⟨many,ps,⟨rfl,g1,g2,g3,g4⟩,er⟩:=yB8 hm
  cases er
  obtain⟨v,e1,r⟩:=S.val 0 _ rfl
  obtain⟨v',rfl⟩:=List.length_eq_one_iff.mp hl
  cases e1
  obtain⟨q,ws,rfl,r2,sq⟩:=r.tupSq
  cases r2 with
  |cons ra r2 =>
   cases r2 with
   |cons rb r2 =>
    (first|obtain rfl:=r2.vI|obtain rfl:=r2.vB|obtain rfl:=r2.vS|obtain rfl:=r2.vN|cases r2);(first|obtain rfl:=ra.vI|obtain rfl:=ra.vB|obtain rfl:=ra.vS|obtain rfl:=ra.vN|cases ra)
    obtain⟨t,zs,rfl,r3,sq3⟩:=rb.tupSq
    refine⟨q,many,ps,rfl,⟨t,zs,sq F H (.refl _) S.sub,sq3 F H (.refl _) S.sub,Reps.pairsAt S.sub r3⟩,g3,g1,g2,g4,λL H' rs gr na hL hrs=>?_⟩
    have n:=New.gro (F:=F) S.sub gr
    refine k _ _ _ n.stp (S.new n) ?_
    obtain⟨n1,n2,n3⟩:=na
    have hL':gro F H H' L=some (.lst (rs.map V.ref)):=by rw[zK4 hL];exact n1
    refine .lst (.inl (.inl hL')) ?_
    have key:∀(l:List Addr) (o:Nat),(∀r∈l,H r=none)->(∀(j:Nat) (hj:j<l.length),H' l[j]=some (.lst ((zC3 ps (o+j)).map V.int))) ->
      Reps K (gro F H H') (l.map V.ref) ((List.range' o l.length).map λj=>D.lst ((zC3 ps j).map D.int)):=by
     intro l
     induction l with
     |nil=>intro o _ _;exact .nil
     |cons a l ih =>
      intro o h1 h2
      rw[List.map_cons,List.length_cons,List.range'_succ,List.map_cons]
      refine .cons ?_ (ih (o+1) (λr hr=>h1 r (List.mem_cons_of_mem _ hr)) λj hj=>?_)
      ·have:=h2 0 (by simp)
       have hA':gro F H H' a=some (.lst ((zC3 ps o).map V.int)):=by rw[zK4 (h1 a List.mem_cons_self)];simpa using this
       exact .lst (.inl (.inl hA')) (Reps.ints _)
      ·have:=h2 (j+1) (by simp;lia)
       rw[show o+1+j=o+(j+1) by lia]
       simpa using this
    have:=key rs 0 hrs (by simpa using n3)
    rw[show rs.length=many.toNat by lia] at this
    rw[List.range_eq_range']
    exact this
noncomputable def zFZ:GS :=
 (zA2 (zE7 (gB (g2 ltD (zAB 1) (gN zE3 [(zAB 0)])))
 (zF4 (g2 ixD (zAB 0) (zAB 1)))
 gNx)
 (zF4 (gC (.int 0))))
noncomputable def zBR:Mr:=zJQ 2 zFZ
theorem zLR:FnScope ["script","k"] ["script","k"] (zAJ zBO):=⟨rfl,rfl,rfl,by decide +kernel,rfl,by decide +kernel,by decide +kernel⟩
theorem zJ7{P:Program}{w:World}{K:PySem.W.Frag}{mg:Str->Option Value}{base:Heap}{f:Addr}{fd:FuncData}(Fn:Fun K "_law_cell" "_law_cell" zBO f fd)(T:Bt mg) :FnOk P w K mg base CX0 1 f fd ["script","k"] (spV K 2 zBR) :=
 zPI Fn zLR λcdv A outer s H E hr=>by
  have hu:=hr.units
  unfold zFZ
  exact(zAG (zE2 (zVX hu (zAC 1) (zLH T.b_len (zAA (zAC 0) zAI)))
   (zAN (zBW (zDB hu (zAC 0) (zAC 1))))
   zBZ)
   (zAN (zBW zAP)))
noncomputable def zF0:GS :=
 (zA2 (zE7 (gB (g2 geD (zAB 0) (g2 zN2 (gC (.int 10)) (gC (.int 18)))))
 (zR9 (zBM [(g2 zQ5 (zAB 0) (g2 zN2 (gC (.int 10)) (gC (.int 18)))),(g2 zGW (zAB 0) (gC (.int 2305843009213693951))),(zAB 1)]))
 gNx)
 (zR9 (zBM [(gC (.int 0)),(g2 zGW (zAB 0) (gC (.int 2305843009213693951))),(zAB 1)])))
noncomputable def zBS:Mr:=zJQ 2 zF0
theorem zLS:FnScope ["cell","turn"] ["cell","turn"] (zAJ zBP):=⟨rfl,rfl,rfl,by decide +kernel,rfl,by decide +kernel,by decide +kernel⟩
theorem zJ8{P:Program}{w:World}{K:PySem.W.Frag}{mg:Str->Option Value}{base:Heap}{f:Addr}{fd:FuncData}(Fn:Fun K "_law_well" "_law_well" zBP f fd)(T:Bt mg) :FnOk P w K mg base CX0 1 f fd ["cell","turn"] (spV K 2 zBS) :=
 zPI Fn zLS λcdv A outer s H E hr=>by
  have hu:=hr.units
  unfold zF0
  exact(zAG (zE2 (yBW (zAC 0) (zSN zAP zAP))
   (zAN (zPF (zDA (zAA (zSK (zAC 0) (zSN zAP zAP)) (zAA (zJU (zAC 0) zAP) (zAA (zAC 1) zAI))))))
   zBZ)
   (zAN (zPF (zDA (zAA zAP (zAA (zJU (zAC 0) zAP) (zAA (zAC 1) zAI)))))))
noncomputable def zF1:GS :=
 (zA2 (zE7 (zBY [0] (gB (g2 gtD (g2 ixD (zAB 0) (gC (.int 0))) (gC (.int 0)))))
 (zA2 (zCD (.nm 2) (zD8 [0] (g2 zGW (g2 ixD (zAB 0) (gC (.int 0))) (zAB 1))))
 (zA2 (zAO 0 (gC (.int 0)) (zD8 [0] (g2 zLD (g2 ixD (zAB 0) (gC (.int 0))) (zAB 1))))
 (zF4 (zAB 2))))
 gNx)
 (zA2 (zAO 0 (gC (.int 2)) (zD8 [0] (g2 zC1 (g2 ixD (zAB 0) (gC (.int 2))) (gC (.int 1)))))
 (zA2 (zCD (.nm 3) (gC (.int 2305843009213693951)))
 (zA2 (zCD (.nm 4) (zD8 [0] (g2 zGW (g2 zC1 (g2 ixD (zAB 0) (gC (.int 1))) (g2 zLC (gC (.int 1000003)) (g2 ixD (zAB 0) (gC (.int 2))))) (zAB 3))))
 (zA2 (zCD (.nm 4) (zD8 [0] (g2 zGW (g2 zC1 (g2 zC1 (g2 zLC (zAB 4) (zAB 4)) (g2 zLC (gC (.int 7919)) (g2 zN2 (g2 ixD (zAB 0) (gC (.int 2))) (gC (.int 2))))) (gC (.int 5))) (zAB 3))))
 (zF4 (g2 zGW (g2 zLD (g2 zGW (g2 zN2 (zAB 4) (gC (.int 3))) (zAB 3)) (gC (.int 13))) (zAB 1))))))))
noncomputable def zAF:Mr:=zJQ 5 zF1
theorem sc_law_take:FnScope ["bag","many","found","p","n"] ["bag","many"] (zAJ zBQ):=⟨rfl,rfl,rfl,by decide +kernel,rfl,by decide +kernel,by decide +kernel⟩
theorem zJ9{P:Program}{w:World}{K:PySem.W.Frag}{mg:Str->Option Value}{base:Heap}{f:Addr}{fd:FuncData}(Fn:Fun K "_law_take" "_law_take" zBQ f fd)(T:Bt mg) :FnOk P w K mg base CX0 1 f fd ["bag","many"] (spV K 2 zAF) :=
 zPI Fn sc_law_take λcdv A outer s H E hr=>by
  have hu:=hr.units
  unfold zF1
  exact(zAG (zE2 (zD9 [0] (yBV (zDB hu (zAC 0) zAP) zAP))
   (zAG (zBE (i:=2) sc_law_take.nd rfl (Or.inl rfl) (zE1 [0] (zJU (zDB hu (zAC 0) zAP) (zAC 1))))
   (zAG (zAY 0 hu zAP (zE1 [0] (zT8 (zDB hu (zAC 0) zAP) (zAC 1))))
   (zAN (zBW (zAC 2)))))
   zBZ)
   (zAG (zAY 0 hu zAP (zE1 [0] (zEA (zDB hu (zAC 0) zAP) zAP)))
   (zAG (zBE (i:=3) sc_law_take.nd rfl (Or.inl rfl) zAP)
   (zAG (zBE (i:=4) sc_law_take.nd rfl (Or.inl rfl) (zE1 [0] (zJU (zEA (zDB hu (zAC 0) zAP) (zSL zAP (zDB hu (zAC 0) zAP))) (zAC 3))))
   (zAG (zBE (i:=4) sc_law_take.nd rfl (Or.inl rfl) (zE1 [0] (zJU (zEA (zEA (zSL (zAC 4) (zAC 4)) (zSL zAP (zSN (zDB hu (zAC 0) zAP) zAP))) zAP) (zAC 3))))
   (zAN (zBW (zJU (zT8 (zJU (zSN (zAC 4) zAP) (zAC 3)) zAP) (zAC 1)))))))))
noncomputable def zES:GS :=
 (zA2 (zCL 3 (gC (.dk [])))
 (zA2 (zED (zAX (g2 ixD (zAB 0) (gC (.int 1)))) (.tp [(.nm 4),(.nm 5)])
 (zAO 3 (zAB 4) (zD8 [3] (g2 zC1 (zP5 (zAB 3) (zAB 4) (zBM [])) (zBM [(zAB 5)])))))
 (zA2 (zCL 6 (gIf (gB (g2 neD (zAB 1) (zAB 2))) (zP4 (zAB 1) (gC (.bl true))) (gC (.dk []))))
 (zA2 (zCL 7 (zWJ [6] (gN zJW [(zAB 6)])))
 (zA2 (gWh (zBY [7] (gB (g2 neD (zAB 7) (zBM []))))
 (zED (zAX (zP5 (zAB 3) (zB3 7 zQ6 []) (zBM []))) (.nm 5)
 (zE7 (zBY [6] (zEZ (gB (g2 neD (zAB 5) (zAB 2))) (gB (g2 zB1 (zAB 5) (zAB 6)))))
 (zA2 (zAO 6 (zAB 5) (gC (.bl true)))
 (zFM (zB3 7 zIQ [(zAB 5)])))
 gNx)) 100000)
 (zF4 (zD8 [6] (gN zJW [(zAB 6)]))))))))
noncomputable def zBJ:Mr:=zJQ 8 zES
theorem sc_law_reach:FnScope ["net","gate","closed","ahead","one","other","found","row"] ["net","gate","closed"] (zAJ zBG):=⟨rfl,rfl,rfl,by decide +kernel,rfl,by decide +kernel,by decide +kernel⟩
theorem zIG{P:Program}{w:World}{K:PySem.W.Frag}{mg:Str->Option Value}{base:Heap}{f:Addr}{fd:FuncData}(Fn:Fun K "_law_reach" "_law_reach" zBG f fd)(T:Bt mg) :FnOk P w K mg base CX0 1 f fd ["net","gate","closed"] (spV K 3 zBJ) :=
 zPI Fn sc_law_reach λcdv A outer s H E hr=>by
  have hu:=hr.units
  unfold zES
  exact(zAG (zBL (i:=3) sc_law_reach.nd rfl (Or.inl rfl) zH6)
   (zAG (zDC PassesOwn.never rfl (zCI (zDB hu (zAC 0) zAP)) (zMF rfl (zCG (zAW (i:=4) sc_law_reach.nd rfl (Or.inl rfl)) (zCG (zAW (i:=5) sc_law_reach.nd rfl (Or.inl rfl)) zHV)))
   (zAN (zAY 3 hu (zAC 4) (zE1 [3] (zEA (zZY hu (zAC 3) (zAC 4) (FE.ve (zDA zAI))) (FE.ve (zDA (zAA (zAC 5) zAI))))))))
   (zAG (zBL (i:=6) sc_law_reach.nd rfl (Or.inl rfl) (yD1 (zGA hu (zAC 1) (zAC 2)) (zWI (zAC 1) zVO) zH6))
   (zAG (zBL (i:=7) sc_law_reach.nd rfl (Or.inl rfl) (yB1 [6] (zMM rfl T.b_list (zAA (zAC 6) zAI))))
   (zAG (zE8 100000 PassesOwn.never (zD9 [7] (zGA hu (zAC 7) (FE.ve (zDA zAI))))
   (zAN (zDC PassesOwn.never rfl (zCI (zZY hu (zAC 3) (yBZ 7) (FE.ve (zDA zAI)))) (zAW (i:=5) sc_law_reach.nd rfl (Or.inl rfl))
   (zAN (zE2 (zD9 [6] (VW.t (zMC (zGA hu (zAC 5) (zAC 2)) (zHT (zE9 hu (zAC 5) (zAC 6))))))
   (zAG (zAY 6 hu (zAC 5) zVO)
   (zAN (zHW (zFA 7 (zAA (zAC 5) zAI)))))
   zBZ)))))
   (zAN (zBW (zE1 [6] (FE.ve (zMM rfl T.b_list (zAA (zAC 6) zAI)))))))))))
noncomputable def zET:GS :=
 (zA2 (zCD (.nm 3) (g2 ixD (zAB 0) (gC (.int 0))))
 (zA2 (zCL 4 (g2 zN3 (zBM [(gC .non)]) (zAB 3)))
 (zA2 (zE7 (gB (g2 inD (zAB 1) (zAB 2)))
 (zF4 (zAB 4))
 gNx)
 (zA2 (zCD (.nm 5) (zB9 zA0 [(zAB 0)]))
 (zA2 (zCD (.nm 6) (zDW (zLI (zAB 3)) 1 [2] (.nm 0) zQ4 (g2 inD (zAB 0) (zAB 1))))
 (zA2 (zAO 4 (zAB 1) (gC (.int 0)))
 (zA2 (zCD (.nm 7) (zBM [(zAB 1)]))
 (zA2 (gWh (zKK (zAB 7))
 (zA2 (zCL 8 (zBM []))
 (zA2 (zED (zAX (zAB 7)) (.nm 9)
 (zED (zAX (g2 ixD (zAB 5) (zAB 9))) (.nm 10)
 (zE7 (zBY [4] (zEZ (gB (g2 zXU (g2 ixD (zAB 4) (zAB 10)) (gC .non))) (zJL (zKK (g2 ixD (zAB 6) (zAB 10))))))
 (zA2 (zAO 4 (zAB 10) (zD8 [4] (g2 zC1 (g2 ixD (zAB 4) (zAB 9)) (gC (.int 1)))))
 (zFM (zB3 8 zIQ [(zAB 10)])))
 gNx)))
 (zCD (.nm 7) (zAB 8)))) 100000)
 (zF4 (zAB 4))))))))))
noncomputable def zCJ:Mr:=zJQ 11 zET
theorem sclanes_away:FnScope ["net","start","closed","many","away","nexts","shut","layer","further","place","head"] ["net","start","closed"] (zAJ zBH):=⟨rfl,rfl,rfl,by decide +kernel,rfl,by decide +kernel,by decide +kernel⟩
theorem zIH{P:Program}{w:World}{K:PySem.W.Frag}{mg:Str->Option Value}{base:Heap}{f:Addr}{fd:FuncData}(Fn:Fun K "lanes_away" "lanes_away" zBH f fd)(T:Bt mg)(c_next_places:Cal P w K mg base "next_places" 1 1 zA0):FnOk P w K mg base CX0 2 f fd ["net","start","closed"] (spV K 3 zCJ) :=
 zPI Fn sclanes_away λcdv A outer s H E hr=>by
  have hu:=hr.units
  unfold zET
  exact(zAG (zBE (i:=3) sclanes_away.nd rfl (Or.inl rfl) (zDB hu (zAC 0) zAP))
   (zAG (zBL (i:=4) sclanes_away.nd rfl (Or.inl rfl) (zV6 (zAA zNI zAI) (zAC 3)))
   (zAG (zE2 (yBT hu (zAC 1) (zAC 2))
   (zAN (zBW (zAC 4)))
   zBZ)
   (zAG (zBE (i:=5) sclanes_away.nd rfl (Or.inl rfl) (zC6 c_next_places (hr.mono (by decide)) (zAA (zAC 0) zAI)))
   (zAG (zLK (i:=6) (own:=["place"]) (caps:=["closed"]) (js:=[2]) ⟨rfl,rfl,by decide +kernel,by decide +kernel,by decide +kernel,rfl,(al1 rfl),rfl,(al1 (by first|exact Or.inl rfl|exact Or.inr rfl)),(al1 (by first|exact Or.inl rfl|exact Or.inr rfl)),by decide +kernel,by decide +kernel⟩ rfl (zJZ T.b_range (zAC 3)) (λC s H fp=>(zAW (i:=0) (by decide +kernel:((["place"]:List Str)++(["closed"]:List Str)).Nodup) rfl (Or.inl rfl) (Or.inr rfl))) (λC s H fp=>zK7) (λC s H fp=>(yDX hu (zAC 0) (zAC 1))) sclanes_away.nd rfl rfl rfl)
   (zAG (zAY 4 hu (zAC 1) zAP)
   (zAG (zBE (i:=7) sclanes_away.nd rfl (Or.inl rfl) (FE.ve (zDA (zAA (zAC 1) zAI))))
   (zAG (zE8 100000 PassesOwn.never (zFB (zAC 7))
   (zAG (zBL (i:=8) sclanes_away.nd rfl (Or.inl rfl) (zDA zAI))
   (zAG (zDC PassesOwn.never rfl (zCI (zAC 7)) (zAW (i:=9) sclanes_away.nd rfl (Or.inl rfl))
   (zAN (zDC PassesOwn.never rfl (zCI (zDB hu (zAC 5) (zAC 9))) (zAW (i:=10) sclanes_away.nd rfl (Or.inl rfl))
   (zAN (zE2 (zD9 [4] (VW.t (zMC (zZG (zDB hu (zAC 4) (zAC 10)) zNI) (zHT (zT4 (zFB (zDB hu (zAC 6) (zAC 10))))))))
   (zAG (zAY 4 hu (zAC 10) (zE1 [4] (zEA (zDB hu (zAC 4) (zAC 9)) zAP)))
   (zAN (zHW (zFA 8 (zAA (zAC 10) zAI)))))
   zBZ)))))
   (zAN (zBE (i:=7) sclanes_away.nd rfl (Or.inl rfl) (zAC 8))))))
   (zAN (zBW (zAC 4)))))))))))
noncomputable def zDI:GS :=
 (zA2 (zCL 2 (gN zJW [(zAB 1)]))
 (zA2 (zCL 3 (zBM []))
 (zA2 (gWh (zBY [2] (gB (g2 neD (zAB 2) (zBM []))))
 (zFM (zB3 3 zIQ [(zB3 2 zEQ [(zAQ zAF 0 [(zD8 [2] (gN zE3 [(zAB 2)]))])])])) 100000)
 (zF4 (zAB 3)))))
noncomputable def zBB:Mr:=zJQ 4 zDI
theorem sc_law_shuffled:FnScope ["bag","some","left","found"] ["bag","some"] (zAJ zA3):=⟨rfl,rfl,rfl,by decide +kernel,rfl,by decide +kernel,by decide +kernel⟩
theorem zE5{P:Program}{w:World}{K:PySem.W.Frag}{mg:Str->Option Value}{base:Heap}{f:Addr}{fd:FuncData}(Fn:Fun K "_law_shuffled" "_law_shuffled" zA3 f fd)(T:Bt mg)(c__law_take:Cal P w K mg base "_law_take" 1 2 zAF):FnOk P w K mg base CX0 2 f fd ["bag","some"] (spV K 2 zBB) :=
 zPI Fn sc_law_shuffled λcdv A outer s H E hr=>by
  have hu:=hr.units
  unfold zDI
  exact(zAG (zBL (i:=2) sc_law_shuffled.nd rfl (Or.inl rfl) (zMM rfl T.b_list (zAA (zAC 1) zAI)))
   (zAG (zBL (i:=3) sc_law_shuffled.nd rfl (Or.inl rfl) (zDA zAI))
   (zAG (zE8 100000 PassesOwn.never (zD9 [2] (zGA hu (zAC 2) (FE.ve (zDA zAI))))
   (zAN (zHW (zFA 3 (zAA (zWF 2 (zAA (zBA 0 c__law_take (hr.mono (by decide)) (zAA (zE1 [2] (zLH T.b_len (zAA (zAC 2) zAI))) zAI)) zAI)) zAI)))))
   (zAN (zBW (zAC 3))))))
noncomputable def zDR:GS :=
 (zA2 (zCD (.nm 3) (zB9 zCJ [(zAB 0),(zAB 1),(zAB 2)]))
 (zF4 (gN zMN [(zDW (zP8 (zAB 3)) 2 [] (.tp [(.nm 0),(.nm 1)]) (gB (g2 zPS (zAB 1) (gC .non))) (zAB 0))])))
noncomputable def zA8:Mr:=zJQ 4 zDR
theorem screached_past:FnScope ["net","gate","closed","away"] ["net","gate","closed"] (zAJ zA7):=⟨rfl,rfl,rfl,by decide +kernel,rfl,by decide +kernel,by decide +kernel⟩
theorem zF2{P:Program}{w:World}{K:PySem.W.Frag}{mg:Str->Option Value}{base:Heap}{f:Addr}{fd:FuncData}(Fn:Fun K "reached_past" "reached_past" zA7 f fd)(T:Bt mg)(c_lanes_away:Cal P w K mg base "lanes_away" 2 3 zCJ):FnOk P w K mg base CX0 3 f fd ["net","gate","closed"] (spV K 3 zA8) :=
 zPI Fn screached_past λcdv A outer s H E hr=>by
  have hu:=hr.units
  unfold zDR
  exact(zAG (zBE (i:=3) screached_past.nd rfl (Or.inl rfl) (zC6 c_lanes_away (hr.mono (by decide)) (zAA (zAC 0) (zAA (zAC 1) (zAA (zAC 2) zAI)))))
   (zAN (zBW (zDY T.b_tuple (zAA (FE.ve (zMJ (own:=["place","steps"]) (caps:=[]) (js:=[]) ⟨rfl,rfl,by decide +kernel,by decide +kernel,by decide +kernel,rfl,zQ7,rfl,zQ7,zQ7,by decide +kernel,by decide +kernel⟩ rfl (zSX T.b_enumerate (zAC 3)) (λC s H fp=>(zMF rfl (zCG (zAW (i:=0) (by decide +kernel:((["place","steps"]:List Str)++([]:List Str)).Nodup) rfl (Or.inl rfl) (Or.inr rfl)) (zCG (zAW (i:=1) (by decide +kernel:((["place","steps"]:List Str)++([]:List Str)).Nodup) rfl (Or.inl rfl) (Or.inr rfl)) zHV)))) (λC s H fp=>(zK8 (zVW (zAC 1) zNI))) (λC s H fp=>(zAC 0)))) zAI)))))
noncomputable def zG2:GS :=
 (zA2 (zCD (.nm 2) (g2 ixD (zBM [(zAB 1),(g2 zC1 (gC (.int 1)) (zAQ zAF 0 [(zAB 1)])),(g2 zC1 (gC (.int 1)) (zAQ zAF 0 [(gN zH5 [(gC (.int 7)),(zAB 1)])]))]) (zAQ zAF 0 [(gC (.int 3))])))
 (zA2 (zCD (.nm 3) (zAQ zAF 0 [(gC (.int 4))]))
 (zA2 (zCD (.nm 4) (g2 ixD (zBM [(gC (.int 0)),(gC (.int 1)),(zAQ zAF 0 [(g2 zC1 (zAB 2) (gC (.int 1)))]),(g2 zC1 (zAB 2) (zAQ zAF 0 [(g2 zLC (gC (.int 5)) (zAB 2))])),(gC (.int 120))]) (zAQ zAF 0 [(gC (.int 5))])))
 (zA2 (zCL 5 (gC (.dt [])))
 (zA2 (zED (zP6 (gC (.int 1)) (zAB 2)) (.nm 6)
 (zE7 (gB (g2 ltD (zAB 3) (gC (.int 3))))
 (zAO 5 (zDP [(g2 ixD (zBM [(zAQ zAF 0 [(zAB 6)]),(g2 zQ5 (g2 zQ5 (zAB 6) (gC (.int 1))) (zAQ zAF 0 [(gN zH5 [(zAB 6),(gC (.int 2))])])),(gC (.int 0))]) (zAB 3)),(zAB 6)]) (gC (.bl true)))
 gNx))
 (zA2 (zED (zLI (zAB 4)) (.nm 7)
 (zA2 (zCD (.nm 8) (zAQ zAF 0 [(zAB 2)]))
 (zA2 (zCD (.nm 9) (g2 ixD (zBM [(zAQ zAF 0 [(zAB 2)]),(g2 zGW (g2 zC1 (g2 zC1 (zAB 8) (gC (.int 1))) (zAQ zAF 0 [(gC (.int 2))])) (zAB 2))]) (zAQ zAF 0 [(gC (.int 2))])))
 (zE7 (zBY [5] (zEZ (gB (g2 neD (zAB 8) (zAB 9))) (gB (g2 ltD (gN zE3 [(zAB 5)]) (gC (.int 120))))))
 (zAO 5 (zDP [(zAB 8),(zAB 9)]) (gC (.bl true)))
 gNx))))
 (zA2 (zCD (.nm 10) (zAQ zBB 0 [(gLR (zAB 2))]))
 (zA2 (zCD (.nm 11) (g2 ixD (zBM [(g2 ixD (zAB 10) (gC (.int 0))),(g2 ixD (zAB 10) (gC (.int 0))),(zAQ zAF 0 [(zAB 2)])]) (zAQ zAF 0 [(gC (.int 3))])))
 (zF4 (zD8 [5] (zDP [(zDP [(zAB 2),(gN zMN [(gN zLG [(zDW (zAX (zAB 5)) 2 [10] (.tp [(.nm 0),(.nm 1)]) zQ4 (zDP [(g2 ixD (zAB 2) (zAB 0)),(g2 ixD (zAB 2) (zAB 1))]))])])]),(zAB 11)])))))))))))
noncomputable def zB8:Mr:=zJQ 12 zG2
theorem sc_law_net:FnScope ["bag","most","many","way","more","lanes","k","turn","one","other","names","gate"] ["bag","most"] (zAJ zB7):=⟨rfl,rfl,rfl,by decide +kernel,rfl,by decide +kernel,by decide +kernel⟩
theorem zLT{P:Program}{w:World}{K:PySem.W.Frag}{mg:Str->Option Value}{base:Heap}{f:Addr}{fd:FuncData}(Fn:Fun K "_law_net" "_law_net" zB7 f fd)(T:Bt mg)(c__law_take:Cal P w K mg base "_law_take" 1 2 zAF)(c__law_shuffled:Cal P w K mg base "_law_shuffled" 2 2 zBB):FnOk P w K mg base CX0 3 f fd ["bag","most"] (spV K 2 zB8) :=
 zPI Fn sc_law_net λcdv A outer s H E hr=>by
  have hu:=hr.units
  unfold zG2
  exact(zAG (zBE (i:=2) sc_law_net.nd rfl (Or.inl rfl) (zDB hu (FE.ve (zDA (zAA (zAC 1) (zAA (zEA zAP (zBA 0 c__law_take (hr.mono (by decide)) (zAA (zAC 1) zAI))) (zAA (zEA zAP (zBA 0 c__law_take (hr.mono (by decide)) (zAA (zUB rfl T.b_min (zAA zAP (zAA (zAC 1) zAI))) zAI))) zAI))))) (zBA 0 c__law_take (hr.mono (by decide)) (zAA zAP zAI))))
   (zAG (zBE (i:=3) sc_law_net.nd rfl (Or.inl rfl) (zBA 0 c__law_take (hr.mono (by decide)) (zAA zAP zAI)))
   (zAG (zBE (i:=4) sc_law_net.nd rfl (Or.inl rfl) (zDB hu (FE.ve (zDA (zAA zAP (zAA zAP (zAA (zBA 0 c__law_take (hr.mono (by decide)) (zAA (zEA (zAC 2) zAP) zAI)) (zAA (zEA (zAC 2) (zBA 0 c__law_take (hr.mono (by decide)) (zAA (zSL zAP (zAC 2)) zAI))) (zAA zAP zAI))))))) (zBA 0 c__law_take (hr.mono (by decide)) (zAA zAP zAI))))
   (zAG (zBL (i:=5) sc_law_net.nd rfl (Or.inl rfl) zWH)
   (zAG (zDC PassesOwn.never rfl (zP7 T.b_range zAP (zAC 2)) (zAW (i:=6) sc_law_net.nd rfl (Or.inl rfl))
   (zAN (zE2 (zVX hu (zAC 3) zAP)
   (zAN (zAY 5 hu (zJP (zAA (zDB hu (FE.ve (zDA (zAA (zBA 0 c__law_take (hr.mono (by decide)) (zAA (zAC 6) zAI)) (zAA (zSK (zSK (zAC 6) zAP) (zBA 0 c__law_take (hr.mono (by decide)) (zAA (zUB rfl T.b_min (zAA (zAC 6) (zAA zAP zAI))) zAI))) (zAA zAP zAI))))) (zAC 3)) (zAA (zAC 6) zAI))) zVO))
   zBZ)))
   (zAG (zDC PassesOwn.never rfl (zJZ T.b_range (zAC 4)) (zAW (i:=7) sc_law_net.nd rfl (Or.inl rfl))
   (zAG (zBE (i:=8) sc_law_net.nd rfl (Or.inl rfl) (zBA 0 c__law_take (hr.mono (by decide)) (zAA (zAC 2) zAI)))
   (zAG (zBE (i:=9) sc_law_net.nd rfl (Or.inl rfl) (zDB hu (FE.ve (zDA (zAA (zBA 0 c__law_take (hr.mono (by decide)) (zAA (zAC 2) zAI)) (zAA (zJU (zEA (zEA (zAC 8) zAP) (zBA 0 c__law_take (hr.mono (by decide)) (zAA zAP zAI))) (zAC 2)) zAI)))) (zBA 0 c__law_take (hr.mono (by decide)) (zAA zAP zAI))))
   (zAN (zE2 (zD9 [5] (VW.t (zMC (zGA hu (zAC 8) (zAC 9)) (zHT (zVX hu (zLH T.b_len (zAA (zAC 5) zAI)) zAP)))))
   (zAN (zAY 5 hu (zJP (zAA (zAC 8) (zAA (zAC 9) zAI))) zVO))
   zBZ)))))
   (zAG (zBE (i:=10) sc_law_net.nd rfl (Or.inr rfl) (zBA 0 c__law_shuffled (hr.mono (by decide)) (zAA (FE.ve (zLJ rfl T.b_range T.b_list (zAC 2))) zAI)))
   (zAG (zBE (i:=11) sc_law_net.nd rfl (Or.inl rfl) (zDB hu (FE.ve (zDA (zAA (zDB hu (zAC 10) zAP) (zAA (zDB hu (zAC 10) zAP) (zAA (zBA 0 c__law_take (hr.mono (by decide)) (zAA (zAC 2) zAI)) zAI))))) (zBA 0 c__law_take (hr.mono (by decide)) (zAA zAP zAI))))
   (zAN (zBW (zE1 [5] (zJP (zAA (zJP (zAA (zAC 2) (zAA (zDY T.b_tuple (zAA (FE.ve (zSS T.b_sorted (zAA (FE.ve (zMJ (own:=["one","other"]) (caps:=["names"]) (js:=[10]) ⟨rfl,rfl,by decide +kernel,by decide +kernel,by decide +kernel,rfl,(al1 rfl),rfl,(al1 (by first|exact Or.inl rfl|exact Or.inr rfl)),(al1 (by first|exact Or.inl rfl|exact Or.inr rfl)),by decide +kernel,by decide +kernel⟩ rfl (zCI (zAC 5)) (λC s H fp=>(zMF rfl (zCG (zAW (i:=0) (by decide +kernel:((["one","other"]:List Str)++(["names"]:List Str)).Nodup) rfl (Or.inl rfl) (Or.inr rfl)) (zCG (zAW (i:=1) (by decide +kernel:((["one","other"]:List Str)++(["names"]:List Str)).Nodup) rfl (Or.inl rfl) (Or.inr rfl)) zHV)))) (λC s H fp=>zK7) (λC s H fp=>(zJP (zAA (zDB hu (zAC 2) (zAC 0)) (zAA (zDB hu (zAC 2) (zAC 1)) zAI)))))) zAI))) zAI)) zAI))) (zAA (zAC 11) zAI))))))))))))))
noncomputable def zKA:GS :=
 (zF4 (zB9 zA8 [(zAB 0),(zAB 1),(zDP [])]))
noncomputable def zCB:Mr:=zJQ 2 zKA
theorem zQO:FnScope ["net","gate"] ["net","gate"] (zAJ zCS):=⟨rfl,rfl,rfl,by decide +kernel,rfl,by decide +kernel,by decide +kernel⟩
theorem zNW{P:Program}{w:World}{K:PySem.W.Frag}{mg:Str->Option Value}{base:Heap}{f:Addr}{fd:FuncData}(Fn:Fun K "reached" "reached" zCS f fd)(T:Bt mg)(c_reached_past:Cal P w K mg base "reached_past" 3 3 zA8):FnOk P w K mg base CX0 4 f fd ["net","gate"] (spV K 2 zCB) :=
 zPI Fn zQO λcdv A outer s H E hr=>by
  have hu:=hr.units
  unfold zKA
  exact(zAN (zBW (zC6 c_reached_past (hr.mono (by decide)) (zAA (zAC 0) (zAA (zAC 1) (zAA (zJP zAI) zAI))))))
noncomputable def zKB:GS :=
 (zA2 (zCD (.nm 3) (zB9 zCB [(zAB 0),(zAB 1)]))
 (zA2 (zE7 (gB (g2 zB1 (zAB 2) (zAB 3)))
 yC4
 gNx)
 (zA2 (zCD (.nm 4) (zB9 zA8 [(zAB 0),(zAB 1),(zDP [(zAB 2)])]))
 (zF4 (gN zMN [(zDW (zAX (zAB 3)) 1 [4] (.nm 0) (gB (g2 zB1 (zAB 0) (zAB 1))) (zAB 0))])))))
noncomputable def zCC:Mr:=zJQ 5 zKB
theorem sccut_off:FnScope ["net","gate","place","all_reached","still"] ["net","gate","place"] (zAJ zCT):=⟨rfl,rfl,rfl,by decide +kernel,rfl,by decide +kernel,by decide +kernel⟩
theorem zNX{P:Program}{w:World}{K:PySem.W.Frag}{mg:Str->Option Value}{base:Heap}{f:Addr}{fd:FuncData}(Fn:Fun K "cut_off" "cut_off" zCT f fd)(T:Bt mg)(c_reached:Cal P w K mg base "reached" 4 2 zCB)(c_reached_past:Cal P w K mg base "reached_past" 3 3 zA8):FnOk P w K mg base CX0 5 f fd ["net","gate","place"] (spV K 3 zCC) :=
 zPI Fn sccut_off λcdv A outer s H E hr=>by
  have hu:=hr.units
  unfold zKB
  exact(zAG (zBE (i:=3) sccut_off.nd rfl (Or.inl rfl) (zC6 c_reached (hr.mono (by decide)) (zAA (zAC 0) (zAA (zAC 1) zAI))))
   (zAG (zE2 (zE9 hu (zAC 2) (zAC 3))
   (zAN zY6)
   zBZ)
   (zAG (zBE (i:=4) sccut_off.nd rfl (Or.inr rfl) (zC6 c_reached_past (hr.mono (by decide)) (zAA (zAC 0) (zAA (zAC 1) (zAA (zJP (zAA (zAC 2) zAI)) zAI)))))
   (zAN (zBW (zDY T.b_tuple (zAA (FE.ve (zMJ (own:=["other"]) (caps:=["still"]) (js:=[4]) ⟨rfl,rfl,by decide +kernel,by decide +kernel,by decide +kernel,rfl,(al1 rfl),rfl,(al1 (by first|exact Or.inl rfl|exact Or.inr rfl)),(al1 (by first|exact Or.inl rfl|exact Or.inr rfl)),by decide +kernel,by decide +kernel⟩ rfl (zCI (zAC 3)) (λC s H fp=>(zAW (i:=0) (by decide +kernel:((["other"]:List Str)++(["still"]:List Str)).Nodup) rfl (Or.inl rfl) (Or.inr rfl))) (λC s H fp=>(zK8 (zE9 hu (zAC 0) (zAC 1)))) (λC s H fp=>(zAC 0)))) zAI)))))))
noncomputable def zKC:GS :=
 (zA2 (zCD (.nm 2) (zFO (zAX (zB9 zCB [(zAB 0),(zAB 1)])) 1 [0,1] (.dk []) (.nm 0) zQ4 (zGZ (zAB 0) (zB9 zCC [(zAB 1),(zAB 2),(zAB 0)]))))
 (zA2 (zCL 3 (g2 zN3 (zBM [(gC .non)]) (g2 ixD (zAB 0) (gC (.int 0)))))
 (zA2 (zQF (gN zJW [(zAB 2)]) [2] (g1 zGB (gN zE3 [(g2 ixD (zAB 1) (zAB 0))])) (.nm 4)
 (zED (zAX (g2 ixD (zAB 2) (zAB 4))) (.nm 5)
 (zE7 (gB (g2 neD (zAB 5) (zAB 4)))
 (zAO 3 (zAB 5) (zAB 4))
 gNx)) [4,5])
 (zA2 (zAO 3 (zAB 1) (zAB 1))
 (zF4 (zD8 [3] (gN zMN [(zAB 3)])))))))
noncomputable def zCV:Mr:=zJQ 6 zKC
theorem scholders:FnScope ["net","gate","cuts","held","place","below"] ["net","gate"] (zAJ zCU):=⟨rfl,rfl,rfl,by decide +kernel,rfl,by decide +kernel,by decide +kernel⟩
theorem zNY{P:Program}{w:World}{K:PySem.W.Frag}{mg:Str->Option Value}{base:Heap}{f:Addr}{fd:FuncData}(Fn:Fun K "holders" "holders" zCU f fd)(T:Bt mg){cc TT:Addr}(hcd:fd.code=.ref cc)(hC:PySem.W.CodeHd base cc TT)(hT:TB K TT ("holders"++".<locals>.<lambda>"))(c_cut_off:Cal P w K mg base "cut_off" 5 3 zCC)(c_reached:Cal P w K mg base "reached" 4 2 zCB):FnOk P w K mg base CX0 6 f fd ["net","gate"] (spV K 2 zCV) :=
 zVR Fn scholders λcdv A outer s H E hcv hr=>by
  have hu:=hr.units
  have hcv:=hcv.trans hcd
  unfold zKC
  exact(zAG (zBE (i:=2) scholders.nd rfl (Or.inr rfl) (FE.ve (zWL (own:=["place"]) (caps:=["net","gate"]) (js:=[0,1]) ⟨rfl,rfl,by decide +kernel,by decide +kernel,by decide +kernel,rfl,(al2 rfl rfl),rfl,(al2 (by first|exact Or.inl rfl|exact Or.inr rfl) (by first|exact Or.inl rfl|exact Or.inr rfl)),(al2 (by first|exact Or.inl rfl|exact Or.inr rfl) (by first|exact Or.inl rfl|exact Or.inr rfl)),by decide +kernel,by decide +kernel⟩ rfl (zCI (zC6 c_reached (hr.mono (by decide)) (zAA (zAC 0) (zAA (zAC 1) zAI)))) (λC s H fp=>(zAW (i:=0) (by decide +kernel:((["place"]:List Str)++(["net","gate"]:List Str)).Nodup) rfl (Or.inl rfl) (Or.inr rfl))) (λC s H fp=>zK7) (λC s H fp=>(zAC 0)) (λC s H fp=>(zC6 c_cut_off (hr.mono (by decide)) (zAA (zAC 1) (zAA (zAC 2) (zAA (zAC 0) zAI))))))))
   (zAG (zBL (i:=3) scholders.nd rfl (Or.inl rfl) (zV6 (zAA zNI zAI) (zDB hu (zAC 0) zAP)))
   (zAG (zWN PassesOwn.never rfl T.b_sorted (FE.ve (zMM rfl T.b_list (zAA (zAC 2) zAI))) (⟨⟨rfl,rfl,rfl,rfl,by decide +kernel,by decide +kernel,rfl,(al1 rfl),rfl,(al1 (by first|exact Or.inl rfl|exact Or.inr rfl)),(al1 rfl),rfl⟩,hr.mono (by decide),hcv,hC,hT,⟨"holders"++".<locals>.",rfl,(by decide +kernel:("holders"++".<locals>.":Str)++("<lambda>":Str)=("holders"++".<locals>.<lambda>":Str))⟩,rfl,λ_ _ _ _=>rfl⟩:LamOk _ _ _ "must" ["cuts"] [2] _ _ _ _ _) (λf c s H=>zZ4 (hr.mono (by decide)) λhu=>(zPU (zLH T.b_len (zAA (zDB hu (zAC 1) (zAC 0)) zAI)))) (zAW (i:=4) scholders.nd rfl (Or.inl rfl))
   (zAN (zDC PassesOwn.never rfl (zCI (zDB hu (zAC 2) (zAC 4))) (zAW (i:=5) scholders.nd rfl (Or.inl rfl))
   (zAN (zE2 (zGA hu (zAC 5) (zAC 4))
   (zAN (zAY 3 hu (zAC 5) (zAC 4)))
   zBZ)))))
   (zAG (zAY 3 hu (zAC 1) (zAC 1))
   (zAN (zBW (zE1 [3] (zDY T.b_tuple (zAA (zAC 3) zAI)))))))))
noncomputable def zEU:GS :=
 (zA2 (zCL 2 (gC (.dk [])))
 (zA2 (zWW zBJ)
 (zA2 (zCL 6 (gC (.dk [])))
 (zA2 (zED (zAX (zAB 2)) (.nm 3)
 (zAO 6 (zAB 3) (gN zMN [(zJ2 (g2 ixD (zAB 2) (zAB 3)) [2] (gN zE3 [(g2 ixD (zAB 1) (zAB 0))]))])))
 (zF4 (zAB 6))))))
noncomputable def zBK:Mr:=zJQ 7 zEU
theorem sc_law_table:FnScope ["net","gate","rows","place","closed","left","found"] ["net","gate"] (zAJ zBI):=⟨rfl,rfl,rfl,by decide +kernel,rfl,by decide +kernel,by decide +kernel⟩
theorem zII{P:Program}{w:World}{K:PySem.W.Frag}{mg:Str->Option Value}{base:Heap}{f:Addr}{fd:FuncData}(Fn:Fun K "_law_table" "_law_table" zBI f fd)(T:Bt mg){cc TT:Addr}(hcd:fd.code=.ref cc)(hC:PySem.W.CodeHd base cc TT)(hT:TB K TT ("_law_table"++".<locals>.<lambda>"))(c__law_reach:Cal P w K mg base "_law_reach" 1 3 zBJ):FnOk P w K mg base CX0 6 f fd ["net","gate"] (spV K 2 zBK) :=
 zVR Fn sc_law_table λcdv A outer s H E hcv hr=>by
  have hu:=hr.units
  have hcv:=hcv.trans hcd
  unfold zEU
  exact(zAG (zBL (i:=2) sc_law_table.nd rfl (Or.inr rfl) zH6)
   (zW0 (m:=zBJ) (zGI PassesOwn.never rfl (zCI (zC6 c__law_reach (hr.mono (by decide)) (zAA (zAC 0) (zAA (zAC 1) (zAA zNI zAI))))) (zCX (i:=3) sc_law_table.nd rfl (Or.inl rfl)) (zDT (zKX (hu1 hu) (pv 2) (pv 3) (zL5 pa_nil) rfl)))
   (zGI PassesOwn.never rfl (zR3 (pv 2)) (zCX (i:=4) sc_law_table.nd rfl (Or.inl rfl)) (zCW (zOA (i:=5) sc_law_table.nd rfl (Or.inl rfl) (zC6 c__law_reach (hr.mono (by decide)) (zAA (zAC 0) (zAA (zAC 1) (zAA (zAC 4) zAI))))) (zDT (zGI PassesOwn.never rfl (zS8 (pv 2)) (zCX (i:=3) sc_law_table.nd rfl (Or.inl rfl)) (zDT (zX5 (zE9 hu (zAC 3) (zAC 5)) (zDT (zKR (zRO PySem.F.plainAttrs_list PySem.F.slot_list_append PySem.F.type_list_append zD4 (zU5 (zPV hu) (pv 2) (pv 3) (λ_ _=>rfl)) (zBF (pv 4) pa_nil)))) pss_nil))))))
   (zAG (zBL (i:=6) sc_law_table.nd rfl (Or.inl rfl) zH6)
   (zAG (zDC PassesOwn.never rfl (zCI (zAC 2)) (zAW (i:=3) sc_law_table.nd rfl (Or.inl rfl))
   (zAN (zAY 6 hu (zAC 3) (zDY T.b_tuple (zAA (FE.ve (zWM T.b_sorted (zDB hu (zAC 2) (zAC 3)) (⟨⟨rfl,rfl,rfl,rfl,by decide +kernel,by decide +kernel,rfl,(al1 rfl),rfl,(al1 (by first|exact Or.inl rfl|exact Or.inr rfl)),(al1 rfl),rfl⟩,hr.mono (by decide),hcv,hC,hT,⟨"_law_table"++".<locals>.",rfl,(by decide +kernel:("_law_table"++".<locals>.":Str)++("<lambda>":Str)=("_law_table"++".<locals>.<lambda>":Str))⟩,rfl,λ_ _ _ _=>rfl⟩:LamOk _ _ _ "one" ["rows"] [2] _ _ _ _ _) (λf c s H=>zZ4 (hr.mono (by decide)) λhu=>(zLH T.b_len (zAA (zDB hu (zAC 1) (zAC 0)) zAI))))) zAI)))))
   (zAN (zBW (zAC 6)))))))
noncomputable def yAC:GS :=
 (zA2 (zED (zAX (g2 zC1 (zBM [(zB9 zBR [(zAB 0),(gC (.int 0))])]) (zFP (zAB 0) (some (gC (.int 1))) (some (gC (.int 8)))))) (.nm 1)
 (zA2 (zCD (.tp [(.nm 2),(.nm 3)]) (zGY zB8 (zGT zBS [(zAB 1),(gC (.int 0))]) [(gC (.int 24))]))
 (zA2 (zCD (.nm 4) (zB9 zBK [(zAB 2),(zAB 3)]))
 (zA2 (zCL 5 (g2 zN3 (zBM [(gC .non)]) (g2 ixD (zAB 2) (gC (.int 0)))))
 (zA2 (zED (zAX (zAB 4)) (.nm 6)
 (zAO 5 (zAB 6) (g2 ixD (g2 zC1 (zFP (g2 ixD (zAB 4) (zAB 6)) none (some (g1 zGB (gC (.int 1))))) (zDP [(zAB 3)])) (gN zP1 [(gC (.int 0)),(g2 zQ5 (gN zE3 [(g2 ixD (zAB 4) (zAB 6))]) (gC (.int 2)))]))))
 (zA2 (zCD (.nm 7) (zB9 zCV [(zAB 2),(zAB 3)]))
 (zA2 (zE7 (zBY [5] (zT3 (zJL (zKK (zGC "tuple" (zAB 7)))) (zT3 (gB (g2 neD (zAB 7) (gN zMN [(zAB 5)]))) (gB (g2 neD (zDW (zAX (zAB 7)) 1 [] (.nm 0) (zKK (zGC "bool" (zAB 0))) (zAB 0)) (zBM []))))))
 (zF4 (gC (.bl false)))
 gNx)
 (zED (zAX (zAB 4)) (.nm 6)
 (zA2 (zCL 8 (zBM [(zAB 6)]))
 (zA2 (gWh (zBY [8] (zEZ (gB (g2 neD (g2 ixD (zAB 8) (g1 zGB (gC (.int 1)))) (zAB 3))) (gB (g2 leD (gN zE3 [(zAB 8)]) (g2 ixD (zAB 2) (gC (.int 0)))))))
 (zFM (zB3 8 zIQ [(zD8 [8] (g2 ixD (zAB 7) (g2 ixD (zAB 8) (g1 zGB (gC (.int 1))))))])) 100000)
 (zE7 (zBY [8] (gB (g2 neD (gN zMN [(zZ3 (zAB 8) (g1 zGB (gC (.int 1))))]) (g2 ixD (zAB 4) (zAB 6)))))
 (zF4 (gC (.bl false)))
 gNx)))))))))))
 (zF4 (gC (.bl true))))
noncomputable def m_law:Mr:=zJQ 9 yAC
theorem sclaw:FnScope ["script","cell","net","gate","table","due","place","found","row"] ["script"] (zAJ zIF):=⟨rfl,rfl,rfl,by decide +kernel,rfl,by decide +kernel,by decide +kernel⟩
theorem yAD{P:Program}{w:World}{K:PySem.W.Frag}{mg:Str->Option Value}{base:Heap}{f:Addr}{fd:FuncData}(Fn:Fun K "law" "law" zIF f fd)(T:Bt mg)(c__law_net:Cal P w K mg base "_law_net" 3 2 zB8)(c__law_table:Cal P w K mg base "_law_table" 6 2 zBK)(c_holders:Cal P w K mg base "holders" 6 2 zCV)(c__law_cell:Cal P w K mg base "_law_cell" 1 2 zBR)(c__law_well:Cal P w K mg base "_law_well" 1 2 zBS):FnOk P w K mg base CX0 7 f fd ["script"] (spV K 1 m_law) :=
 zPI Fn sclaw λcdv A outer s H E hr=>by
  have hu:=hr.units
  unfold yAC
  exact(zAG (zDC PassesOwn.never rfl (zCI (zEA (FE.ve (zDA (zAA (zC6 c__law_cell (hr.mono (by decide)) (zAA (zAC 0) (zAA zAP zAI))) zAI))) (zPW (zAC 0) (zLE zAP) (zLE zAP)))) (zAW (i:=1) sclaw.nd rfl (Or.inl rfl))
   (zAG (zY8 (zWK c__law_net (hr.mono (by decide)) (zZC c__law_well (hr.mono (by decide)) (zAA (zAC 1) (zAA zAP zAI))) (zAA zAP zAI)) (zMF rfl (zCG (zAW (i:=2) sclaw.nd rfl (Or.inl rfl)) (zCG (zAW (i:=3) sclaw.nd rfl (Or.inl rfl)) zHV))))
   (zAG (zBE (i:=4) sclaw.nd rfl (Or.inl rfl) (zC6 c__law_table (hr.mono (by decide)) (zAA (zAC 2) (zAA (zAC 3) zAI))))
   (zAG (zBL (i:=5) sclaw.nd rfl (Or.inl rfl) (zV6 (zAA zNI zAI) (zDB hu (zAC 2) zAP)))
   (zAG (zDC PassesOwn.never rfl (zCI (zAC 4)) (zAW (i:=6) sclaw.nd rfl (Or.inl rfl))
   (zAN (zAY 5 hu (zAC 6) (zDB hu (zEA (zPW (zDB hu (zAC 4) (zAC 6)) zV8 (zLE (zPU zAP))) (zJP (zAA (zAC 3) zAI))) (zZU rfl T.b_max (zAA zAP (zAA (zSK (zLH T.b_len (zAA (zDB hu (zAC 4) (zAC 6)) zAI)) zAP) zAI)))))))
   (zAG (zBE (i:=7) sclaw.nd rfl (Or.inl rfl) (zC6 c_holders (hr.mono (by decide)) (zAA (zAC 2) (zAA (zAC 3) zAI))))
   (zAG (zE2 (zD9 [5] (VW.t (zY4 (zT4 (zFB (zUC zP3 T.b_isinstance T.b_tuple (by decide +kernel) (zAC 7)))) (zY4 (zGA hu (zAC 7) (zDY T.b_tuple (zAA (zAC 5) zAI))) (zY3 (zGA hu (FE.ve (zMJ (own:=["one"]) (caps:=[]) (js:=[]) ⟨rfl,rfl,by decide +kernel,by decide +kernel,by decide +kernel,rfl,zQ7,rfl,zQ7,zQ7,by decide +kernel,by decide +kernel⟩ rfl (zCI (zAC 7)) (λC s H fp=>(zAW (i:=0) (by decide +kernel:((["one"]:List Str)++([]:List Str)).Nodup) rfl (Or.inl rfl) (Or.inr rfl))) (λC s H fp=>(zK8 (zFB (zUC zSV T.b_isinstance T.b_bool (by decide +kernel) (zAC 0))))) (λC s H fp=>(zAC 0)))) (FE.ve (zDA zAI))))))))
   (zAN (zBW zVO))
   zBZ)
   (zAN (zDC PassesOwn.never rfl (zCI (zAC 4)) (zAW (i:=6) sclaw.nd rfl (Or.inl rfl))
   (zAG (zBL (i:=8) sclaw.nd rfl (Or.inl rfl) (zDA (zAA (zAC 6) zAI)))
   (zAG (zE8 100000 PassesOwn.never (zD9 [8] (VW.t (zMC (zGA hu (zDB hu (zAC 8) (zPU zAP)) (zAC 3)) (zHT (yBU (zLH T.b_len (zAA (zAC 8) zAI)) (zDB hu (zAC 2) zAP))))))
   (zAN (zHW (zFA 8 (zAA (zE1 [8] (zDB hu (zAC 7) (zDB hu (zAC 8) (zPU zAP)))) zAI)))))
   (zAN (zE2 (zD9 [8] (zGA hu (zDY T.b_tuple (zAA (FE.ve (yB3 (zAC 8) (zPU zAP))) zAI)) (zDB hu (zAC 4) (zAC 6))))
   (zAN (zBW zVO))
   zBZ)))))))))))))
   (zAN (zBW zVO)))
theorem zLU{i j:Int}(h:0<j):zGW (.int i) (.int j)=.ok (.int (i % j)):=if_pos h
theorem zUL{i j:Int}(h:0<j/\j<1073741824):zLD (.int i) (.int j)=.ok (.int (i / j)):=if_pos h
theorem zW4{i j:Int}(h:zEG i\/zEG j):zLC (.int i) (.int j)=.ok (.int (i * j)):=if_pos h
theorem zW5{i j:Int}(h:0<=j/\j<=1000000/\i.natAbs<2 ^ 64):zN2 (.int i) (.int j)=.ok (.int (i ^ j.toNat)):=if_pos h
noncomputable def zIJ(a b c n:Int)(u2 u3 u4:Sl):Ev:=[.own true (.lst [.int a,.int b,.int c]),.val (.int n),u2,u3,u4]
theorem zUM{a b c n:Int}{u2 u3 u4:Sl}:zBY [0] (gB (g2 gtD (g2 ixD (zAB 0) (gC (.int 0))) (gC (.int 0)))) (zIJ a b c n u2 u3 u4)=.ok (decide (0<a),zIJ a b c n u2 u3 u4) :=
 zBD (zB4 (zAL (zAL (x:=.lst [.int a,.int b,.int c]) (y:=.int 0) rfl rfl (d:=.int a) rfl) (y:=.int 0) rfl rfl))
theorem zTC{a b c n:Int}(ha:0<a)(hn:1<=n)(hn2:n<1073741824) :
  zAF [.own true (.lst [.int a,.int b,.int c]),.val (.int n)]=.ok (false,.int (a % n),.lst [.int (a / n),.int b,.int c]):=by
 have h1:0<n:=by lia
 have t:=zUM (a:=a) (b:=b) (c:=c) (n:=n) (u2:=.no) (u3:=.no) (u4:=.no)
 rw[decide_eq_true ha] at t
 exact zDH (zMR (zS2 t (zAK (E1:=zIJ a b c n (.val (.int (a % n))) .no .no) (zBC (zC7 (zAL (zAL (x:=.lst [.int a,.int b,.int c]) (y:=.int 0) rfl rfl (d:=.int a) rfl) (y:=.int n) rfl (zLU h1)) rfl) rfl)
  (zAK (E1:=zIJ (a / n) b c n (.val (.int (a % n))) .no .no) (zAZ (i:=0) (E1:=zIJ a b c n (.val (.int (a % n))) .no .no) (E2:=zIJ a b c n (.val (.int (a % n))) .no .no) (t:=true) (d:=.lst [.int a,.int b,.int c]) (k:=.int 0) (d':=.lst [.int (a / n),.int b,.int c]) rfl (zC7 (zAL (zAL (x:=.lst [.int a,.int b,.int c]) (y:=.int 0) rfl rfl (d:=.int a) rfl) (y:=.int n) rfl (zUL ⟨h1,hn2⟩)) rfl) rfl rfl rfl) (zCA (d:=.int (a % n)) rfl))))) rfl
noncomputable def zTD(b c:Int):Int:=(b+1000003 * c) % 2305843009213693951
noncomputable def zTE(b c:Int):Int:=(zTD b c * zTD b c+7919 * c ^ 2+5) % 2305843009213693951
theorem s64{i:Int}(h0:0<=i)(h:i<2305843009213693951):zEG i:=⟨by lia,by lia⟩
theorem zTF{a b c n:Int}(ha:¬0<a)(hc:0<=c)(hc2:c<1000000)(hn:1<=n)(hn2:n<1073741824) :
  zAF [.own true (.lst [.int a,.int b,.int c]),.val (.int n)]=.ok (false,.int (zTE b (c+1) ^ 3 % 2305843009213693951 / 13 % n),.lst [.int a,.int b,.int (c+1)]):=by
 have h1:0<n:=by lia
 have m1:0<=zTD b (c+1):=Int.emod_nonneg _ (by decide)
 have m2:zTD b (c+1)<2305843009213693951:=Int.emod_lt_of_pos _ (by decide)
 have m3:0<=zTE b (c+1):=Int.emod_nonneg _ (by decide)
 have m4:zTE b (c+1)<2305843009213693951:=Int.emod_lt_of_pos _ (by decide)
 have t:=zUM (a:=a) (b:=b) (c:=c) (n:=n) (u2:=.no) (u3:=.no) (u4:=.no)
 rw[decide_eq_false ha] at t
 have hp:(0:Int)<2305843009213693951:=by decide
 have bag:zAB 0 (zDO [0] (zIJ a b (c+1) n .no .no .no))=.ok (.lst [.int a,.int b,.int (c+1)],zDO [0] (zIJ a b (c+1) n .no .no .no)):=rfl
 have s1:zAO 0 (gC (.int 2)) (zD8 [0] (g2 zC1 (g2 ixD (zAB 0) (gC (.int 2))) (gC (.int 1)))) (zIJ a b c n .no .no .no)=.ok (.nx (zIJ a b (c+1) n .no .no .no)) :=
  zAZ (i:=0) (E1:=zIJ a b c n .no .no .no) (E2:=zIJ a b c n .no .no .no) (t:=true) (d:=.lst [.int a,.int b,.int c]) (k:=.int 2) (d':=.lst [.int a,.int b,.int (c+1)]) rfl (zC7 (zAL (zAL (x:=.lst [.int a,.int b,.int c]) (y:=.int 2) rfl rfl (d:=.int c) rfl) (y:=.int 1) rfl rfl) rfl) rfl rfl rfl
 have s3:zCD (.nm 4) (zD8 [0] (g2 zGW (g2 zC1 (g2 ixD (zAB 0) (gC (.int 1))) (g2 zLC (gC (.int 1000003)) (g2 ixD (zAB 0) (gC (.int 2))))) (zAB 3))) (zIJ a b (c+1) n .no (.val (.int 2305843009213693951)) .no)=.ok (.nx (zIJ a b (c+1) n .no (.val (.int 2305843009213693951)) (.val (.int (zTD b (c+1)))))) :=
  zBC (zC7 (d:=.int (zTD b (c+1))) (zAL (zAL (zAL (x:=.lst [.int a,.int b,.int (c+1)]) (y:=.int 1) rfl rfl (d:=.int b) rfl) (zAL (x:=.int 1000003) rfl (zAL (x:=.lst [.int a,.int b,.int (c+1)]) (y:=.int 2) rfl rfl (d:=.int (c+1)) rfl) (zW4 (.inl ⟨by decide,by decide⟩))) rfl) (y:=.int 2305843009213693951) rfl (zLU hp)) rfl) rfl
 have s4:zCD (.nm 4) (zD8 [0] (g2 zGW (g2 zC1 (g2 zC1 (g2 zLC (zAB 4) (zAB 4)) (g2 zLC (gC (.int 7919)) (g2 zN2 (g2 ixD (zAB 0) (gC (.int 2))) (gC (.int 2))))) (gC (.int 5))) (zAB 3))) (zIJ a b (c+1) n .no (.val (.int 2305843009213693951)) (.val (.int (zTD b (c+1)))))=.ok (.nx (zIJ a b (c+1) n .no (.val (.int 2305843009213693951)) (.val (.int (zTE b (c+1)))))) :=
  zBC (zC7 (d:=.int (zTE b (c+1))) (zAL (zAL (zAL (zAL (x:=.int (zTD b (c+1))) (y:=.int (zTD b (c+1))) rfl rfl (zW4 (.inl (s64 m1 m2)))) (zAL (x:=.int 7919) rfl (zAL (zAL (x:=.lst [.int a,.int b,.int (c+1)]) (y:=.int 2) rfl rfl (d:=.int (c+1)) rfl) (y:=.int 2) rfl (zW5 ⟨by decide,by decide,by lia⟩)) (zW4 (.inl ⟨by decide,by decide⟩))) rfl) (y:=.int 5) rfl rfl) (y:=.int 2305843009213693951) rfl (zLU hp)) rfl) rfl
 have s5:zF4 (g2 zGW (g2 zLD (g2 zGW (g2 zN2 (zAB 4) (gC (.int 3))) (zAB 3)) (gC (.int 13))) (zAB 1)) (zIJ a b (c+1) n .no (.val (.int 2305843009213693951)) (.val (.int (zTE b (c+1)))))=.ok (.rt false (.int (zTE b (c+1) ^ 3 % 2305843009213693951 / 13 % n)) (zIJ a b (c+1) n .no (.val (.int 2305843009213693951)) (.val (.int (zTE b (c+1)))))) :=
  zCA (zAL (zAL (zAL (zAL (x:=.int (zTE b (c+1))) (y:=.int 3) rfl rfl (zW5 ⟨by decide,by decide,by lia⟩)) (y:=.int 2305843009213693951) rfl (zLU hp)) (y:=.int 13) rfl (zUL ⟨by decide,by decide⟩)) (y:=.int n) rfl (zLU h1))
 exact zDH (zAK (zLL t rfl) (zAK s1 (zAK (E1:=zIJ a b (c+1) n .no (.val (.int 2305843009213693951)) .no) rfl (zAK s3 (zAK s4 s5))))) rfl
def Bag(k:Nat)(d:D):Prop:=∃a b c:Int,d=.lst [.int a,.int b,.int c]/\0<=c/\c<=k
theorem Bag.mono{k k':Nat}{d:D}(h:Bag k d)(l:k<=k'):Bag k' d:=by
 obtain⟨a,b,c,e,h0,h1⟩:=h
 exact⟨a,b,c,e,h0,by lia⟩
theorem zW6{k:Nat}{d:D}{n:Int}(B:Bag k d)(hk:k<900000)(hn:1<=n)(hn2:n<1073741824) :
  ∃r d',zAF [.own true d,.val (.int n)]=.ok (false,.int r,d')/\0<=r/\r<n/\Bag (k+1) d':=by
 obtain⟨a,b,c,rfl,h0,h1⟩:=B
 by_cases ha:0<a
 ·exact⟨_,_,zTC ha hn hn2,Int.emod_nonneg _ (by lia),Int.emod_lt_of_pos _ (by lia),_,_,_,rfl,h0,by lia⟩
 ·exact⟨_,_,zTF ha h0 (by lia) hn hn2,Int.emod_nonneg _ (by lia),Int.emod_lt_of_pos _ (by lia),_,_,_,rfl,by lia,by lia⟩
theorem zW7(n:Int):∃d,zBS [.val (.int n),.val (.int 0)]=.ok (true,d,.non)/\Bag 0 d:=by
 have hp:(0:Int)<2305843009213693951:=by decide
 have pw:∀E:Ev,g2 zN2 (gC (.int 10)) (gC (.int 18)) E=.ok (.int 1000000000000000000,E):=λE=>zAL (x:=.int 10) (y:=.int 18) rfl rfl (zW5 ⟨by decide,by decide,by decide⟩)
 have t:gB (g2 geD (zAB 0) (g2 zN2 (gC (.int 10)) (gC (.int 18)))) [.val (.int n),.val (.int 0)]=.ok (decide (1000000000000000000<=n),[.val (.int n),.val (.int 0)]):=zB4 (zAL (x:=.int n) rfl (pw _) rfl)
 by_cases h:1000000000000000000<=n
 ·rw[decide_eq_true h] at t
  exact⟨.lst [.int (n-1000000000000000000),.int (n % 2305843009213693951),.int 0],zDH (zMR (zS2 t (zQI (zER (zAR (zAL (x:=.int n) rfl (pw _) (d:=.int (n-1000000000000000000)) rfl) (zAR (zAL (x:=.int n) (y:=.int 2305843009213693951) rfl rfl (zLU hp)) (zA6 (d:=.int 0) rfl))) (show 3<10000 by decide))))) rfl,_,_,_,rfl,by decide,by decide⟩
 ·rw[decide_eq_false h] at t
  exact⟨.lst [.int 0,.int (n % 2305843009213693951),.int 0],zDH (zAK (zLL t rfl) (zQI (zER (zAR (d:=.int 0) rfl (zAR (zAL (x:=.int n) (y:=.int 2305843009213693951) rfl rfl (zLU hp)) (zA6 (d:=.int 0) rfl))) (show 3<10000 by decide)))) rfl,_,_,_,rfl,by decide,by decide⟩
noncomputable def zB5(many:Int)(ps:List (Int×Int)):D:=.tup [.int many,.tup (ps.map zDF)]
noncomputable def yCA(p:Int×Int):Int×Int:=(p.2,p.1)
structure Net(many:Int)(ps:List (Int×Int)):Prop where
 m1:1<=many
 m2:many<=24
 len:ps.length<=120
 rg:∀p∈ps,0<=p.1/\p.1<many/\0<=p.2/\p.2<many/\p.1≠p.2
 pw:ps.Pairwise λa b=>ltP a b=true
noncomputable def back(ps:List (Int×Int)):List (Int×Int):=zEH (ps.map yCA)
theorem zLV(Ec:Ev)(k:Nat):∀(j:Nat) (E:Ev),zPK Ec k [] j E=E
 |_,[]=>rfl
 |j,s::E=>by
  rw[zPK,zLV Ec k (j+1) E]
  cases s<;>rfl
theorem yAE{E:Ev}(h:E.length=2):∃x y,E=[x,y]:=by
 match E,h with
 |[x,y],_=>exact⟨x,y,rfl⟩
theorem yD6{ps:List (Int×Int)}(h:ps.Pairwise λa b=>ltP a b=true):ps.Pairwise λa b=>leP a b=true :=
 h.imp λ{a b} e=>by
  simp only[leP,ltP,decide_eq_true_eq,Bool.not_eq_true',decide_eq_false_iff_not] at *
  lia
theorem zLW{a b:Int×Int}(h:leP a b=true)(hn:a≠b):ltP a b=true:=by
 obtain⟨a1,a2⟩:=a
 obtain⟨b1,b2⟩:=b
 simp only[leP,ltP,decide_eq_true_eq,Bool.not_eq_true',decide_eq_false_iff_not] at *
 have:¬(a1=b1/\a2=b2):=λ⟨x,y⟩=>hn (by rw[x,y])
 lia
theorem zTG{ps:List (Int×Int)}(h:ps.Nodup):(zEH ps).Pairwise λa b=>ltP a b=true:=by
 have h2:(zEH ps).Nodup:=(zEI ps).nodup_iff.mpr h
 exact((zML ps).and h2).imp λ{a b} e=>zLW e.1 e.2
section
end
noncomputable def zC4:Option Int->D
 |none=>.non
 |some i=>.int i
inductive Rc(ps:List (Int×Int))(cl:List Int)(g:Int):Int->Prop
 |refl:g∉cl->Rc ps cl g g
 |step {x y:Int}:Rc ps cl g x->(x,y)∈ps->y∉cl->Rc ps cl g y
def vis(aw:List (Option Int))(x:Int):Prop:=0<=x/\∃v,aw[x.toNat]?=some (some v)
noncomputable def zKL:List (Option Int)->Nat
 |[]=>0
 |none::r=>zKL r+1
 |some _::r=>zKL r
theorem zM0:∀{l:List (Option Int)} {i:Nat} {v:Int},l[i]?=some none->zKL (l.set i (some v))+1=zKL l
 |[],_,_,h=>by simp at h
 |o::l,0,v,h=>by simp at h;subst h;rfl
 |o::l,i+1,v,h=>by
  have:=zM0 (l:=l) (i:=i) (v:=v) (by simpa using h)
  cases o<;>simp[zKL]<;>lia
theorem zIK:∀l:List (Option Int),zKL l<=l.length
 |[]=>Nat.le_refl _
 |none::r=>by have:=zIK r;simp[zKL];lia
 |some _::r=>by have:=zIK r;simp[zKL];lia
theorem zD0{aw:List (Option Int)}{j v x:Int}(h0:0<=j)(h1:j.toNat<aw.length):vis (aw.set j.toNat (some v)) x↔vis aw x\/x=j:=by
 unfold vis
 by_cases e:x=j
 ·subst e
  simp only[or_true,iff_true]
  exact⟨h0,v,by rw[List.getElem?_set_self h1]⟩
 ·constructor
  ·rintro⟨a,w,b⟩
   rw[List.getElem?_set_ne (by lia)] at b
   exact .inl ⟨a,w,b⟩
  ·rintro(⟨a,w,b⟩|h)
   ·exact⟨a,w,by rw[List.getElem?_set_ne (by lia)];exact b⟩
   ·exact absurd h e
theorem mem_succs{ps:List (Int×Int)}{j:Nat}{y:Int}:y∈zC3 ps j↔((j:Int),y)∈ps:=by
 unfold zC3
 constructor
 ·intro h
  obtain⟨p,hp,rfl⟩:=List.mem_map.mp h
  obtain⟨hp,e⟩:=List.mem_filter.mp hp
  have:=of_decide_eq_true e
  rw[<-this];exact hp
 ·intro h
  exact List.mem_map.mpr ⟨_,List.mem_filter.mpr ⟨h,decide_eq_true rfl⟩,rfl⟩
noncomputable def zLX(many:Int)(cl:List Int):D:=.lst ((List.range many.toNat).map λ(j:Nat)=>.bl (decide ((j:Int)∈cl)))
noncomputable def env(many:Int)(ps:List (Int×Int))(cl:List Int)(start:Int)(aw:List (Option Int))(row:List Int)(u8 u9 u10:Sl):Ev :=
 [.val (zB5 many ps),.val (.int start),.val (.tup (cl.map D.int)),.val (.int many),.own false (.lst (aw.map zC4)),.val (zGE many ps),.val (zLX many cl),.val (.lst (row.map D.int)),u8,u9,u10]
noncomputable abbrev zIR(later:List Int):Sl:=.own false (.lst (later.map D.int))
structure Rg(many:Int)(ps:List (Int×Int)):Prop where
 m1:0<=many
 m2:many<=100
 len:ps.length<=1000
 rg:∀p∈ps,0<=p.1/\p.1<many/\0<=p.2/\p.2<many
section
variable{many:Int}{ps:List (Int×Int)}{cl:List Int}{start:Int}
noncomputable abbrev inB:GS:=zE7 (zBY [4] (zEZ (gB (g2 zXU (g2 ixD (zAB 4) (zAB 10)) (gC .non))) (zJL (zKK (g2 ixD (zAB 6) (zAB 10))))))
 (zA2 (zAO 4 (zAB 10) (zD8 [4] (g2 zC1 (g2 ixD (zAB 4) (zAB 9)) (gC (.int 1)))))
 (zFM (zB3 8 zIQ [(zAB 10)])))
 gNx
theorem yAF{aw:List (Option Int)}{x:Int}{o:Option Int}(h0:0<=x)(h:aw[x.toNat]?=some o):ixD (.lst (aw.map zC4)) (.int x)=.ok (zC4 o):=by
 have:=zJ4 (xs:=aw.map zC4) (x:=zC4 o) h0 (by rw[List.getElem?_map,h];rfl)
 exact zZ8 this
theorem zW8{x:Int}(h0:0<=x)(h:x<many):ixD (zLX many cl) (.int x)=.ok (.bl (decide (x∈cl))):=by
 have:=zJ4 (xs:=(List.range many.toNat).map λ(j:Nat)=>D.bl (decide ((j:Int)∈cl))) (x:=.bl (decide (x∈cl))) h0 (by
  rw[List.getElem?_map,List.getElem?_range (by lia),Option.map_some,show((x.toNat:Nat):Int)=x by lia])
 exact zZ8 this
theorem zW9{x:Int}(h0:0<=x)(h:x<many):ixD (zGE many ps) (.int x)=.ok (.lst ((zC3 ps x.toNat).map D.int)):=by
 have:=zJ4 (xs:=(List.range many.toNat).map λ(j:Nat)=>D.lst ((zC3 ps j).map D.int)) (x:=.lst ((zC3 ps x.toNat).map D.int)) h0 (by
  rw[List.getElem?_map,List.getElem?_range (by lia),Option.map_some])
 exact zZ8 this
theorem zXA{aw:List (Option Int)}{row later:List Int}{one other v:Int}(hl:aw.length=many.toNat)(h1:0<=one)(hv:aw[one.toNat]?=some (some v))(h2:0<=other)(h3:other<many)(hll:later.length<10000) :
  ∃aw' later',inB (env many ps cl start aw row (zIR later) (.val (.int one)) (.val (.int other)))=.ok (.nx (env many ps cl start aw' row (zIR later') (.val (.int one)) (.val (.int other)))) /\
   ((aw[other.toNat]?=some none/\other∉cl/\aw'=aw.set other.toNat (some (v+1))/\later'=later++[other])\/(aw'=aw/\later'=later/\(other∉cl->vis aw other))):=by
 obtain⟨o,ho⟩:∃o,aw[other.toNat]?=some o:=⟨_,List.getElem?_eq_getElem (by lia)⟩
 have t1:∀b,(match o with|none=>true|_=>false)=b->gB (g2 zXU (g2 ixD (zAB 4) (zAB 10)) (gC .non)) (zDO [4] (env many ps cl start aw row (zIR later) (.val (.int one)) (.val (.int other))))=.ok (b,zDO [4] (env many ps cl start aw row (zIR later) (.val (.int one)) (.val (.int other)))):=λb hb =>
  zB4 (zAL (zAL (x:=.lst (aw.map zC4)) (y:=.int other) rfl rfl (yAF h2 ho)) (y:=.non) rfl (by cases o<;>subst hb<;>rfl))
 have t2:zJL (zKK (g2 ixD (zAB 6) (zAB 10))) (zDO [4] (env many ps cl start aw row (zIR later) (.val (.int one)) (.val (.int other))))=.ok (!decide (other∈cl),zDO [4] (env many ps cl start aw row (zIR later) (.val (.int one)) (.val (.int other)))) :=
  zQK (zQJ (zAL (x:=zLX many cl) (y:=.int other) rfl rfl (zW8 h2 h3)) rfl)
 cases o with
 |some w =>
  refine⟨aw,later,zLL (zBD (zMU (t1 false rfl))) rfl,.inr ⟨rfl,rfl,λ_=>⟨h2,w,ho⟩⟩⟩
 |none =>
  by_cases hc:other∈cl
  ·rw[decide_eq_true hc] at t2
   exact⟨aw,later,zLL (zBD (zFV (t1 true rfl) t2)) rfl,.inr ⟨rfl,rfl,λz=>absurd hc z⟩⟩
  ·rw[decide_eq_false hc] at t2
   refine⟨_,_,zS2 (zBD (zFV (t1 true rfl) t2)) (zAK (E1:=env many ps cl start (aw.set other.toNat (some (v+1))) row (zIR later) (.val (.int one)) (.val (.int other))) ?_ ?_),.inl ⟨ho,hc,rfl,rfl⟩⟩
   ·have hb:zD8 [4] (g2 zC1 (g2 ixD (zAB 4) (zAB 9)) (gC (.int 1))) (env many ps cl start aw row (zIR later) (.val (.int one)) (.val (.int other)))=.ok (.int (v+1),env many ps cl start aw row (zIR later) (.val (.int one)) (.val (.int other))) :=
     zC7 (zAL (zAL (x:=.lst (aw.map zC4)) (y:=.int one) rfl rfl (yAF h1 hv)) (y:=.int 1) rfl rfl) rfl
    have:=zAZ (i:=4) (gk:=zAB 10) (t:=false) (d:=.lst (aw.map zC4)) (k:=.int other) (d':=.lst ((aw.set other.toNat (some (v+1))).map zC4)) rfl hb rfl rfl (by
     rw[zWV (zQH h2 (by rw[List.length_map];lia)),List.map_set];rfl)
    exact this
   ·have:=zEK (i:=8) (f:=zIQ) (gs:=[zAB 10]) (E:=env many ps cl start (aw.set other.toNat (some (v+1))) row (zIR later) (.val (.int one)) (.val (.int other))) (xs:=later.map D.int) (ds:=[.int other]) (x:=.non) (ds':=(later++[other]).map D.int) rfl rfl rfl (by
     simp only[zIQ,List.length_map]
     rw[zEJ hll];simp)
    exact zIC this
structure Bf(ps:List (Int×Int))(cl:List Int)(start:Int)(n:Nat)(aw0 aw:List (Option Int))(later:List Int):Prop where
 len:aw.length=n
 mono:∀x,vis aw0 x->vis aw x
 new:∀x,vis aw x->vis aw0 x\/x∈later
 lat:∀x∈later,vis aw x
 rc:∀x,vis aw x->Rc ps cl start x
 cnt:zKL aw+later.length=zKL aw0
theorem Bf.step{aw0 aw:List (Option Int)}{later:List Int}{one other v:Int}{n:Nat}(B:Bf ps cl start n aw0 aw later)(h1:vis aw one)(he:(one,other)∈ps)(h2:0<=other)(h3:other.toNat<n)(h4:aw[other.toNat]?=some none)(h5:other∉cl) :
  Bf ps cl start n aw0 (aw.set other.toNat (some (v+1))) (later++[other]) where
 len:=by rw[List.length_set];exact B.len
 mono:=λx h=>(zD0 h2 (by rw[B.len];exact h3)).mpr (.inl (B.mono x h))
 new:=λx h=>by
  rcases(zD0 h2 (by rw[B.len];exact h3)).mp h with h|rfl
  ·rcases B.new x h with h|h
   ·exact .inl h
   ·exact .inr (List.mem_append_left _ h)
  ·exact .inr (by simp)
 lat:=λx h=>by
  refine(zD0 h2 (by rw[B.len];exact h3)).mpr ?_
  rcases List.mem_append.mp h with h|h
  ·exact .inl (B.lat x h)
  ·exact .inr (List.mem_singleton.mp h)
 rc:=λx h=>by
  rcases(zD0 h2 (by rw[B.len];exact h3)).mp h with h|rfl
  ·exact B.rc x h
  ·exact .step (B.rc one h1) he h5
 cnt:=by
  have:=zM0 (v:=v+1) h4
  have:=B.cnt
  rw[List.length_append,List.length_singleton];lia
noncomputable abbrev yA0:GS:=zED (zAX (g2 ixD (zAB 5) (zAB 9))) (.nm 10) inB
theorem zTH(R:Rg many ps){aw0 aw1:List (Option Int)}{row later1:List Int}{one:Int}{u10:Sl}(B1:Bf ps cl start many.toNat aw0 aw1 later1)(hv:vis aw1 one)(ho:one<many)(hc0:zKL aw0<=100) :
  ∃aw later u,yA0 (env many ps cl start aw1 row (zIR later1) (.val (.int one)) u10)=.ok (.nx (env many ps cl start aw row (zIR later) (.val (.int one)) u))/\Bf ps cl start many.toNat aw0 aw later/\(∀x,vis aw1 x->vis aw x)/\∀y,(one,y)∈ps->y∉cl->vis aw y:=by
 have h0:=hv.1
 obtain⟨E',e,aw,later,u,rfl,B,mo,ex⟩:=zCM (gi:=zAX (g2 ixD (zAB 5) (zAB 9))) (t:=.nm 10) (g:=inB) (E:=env many ps cl start aw1 row (zIR later1) (.val (.int one)) u10) (ds:=(zC3 ps one.toNat).map D.int)
  (λi E=>∃aw later u,E=env many ps cl start aw row (zIR later) (.val (.int one)) u/\Bf ps cl start many.toNat aw0 aw later/\(∀x,vis aw1 x->vis aw x)/\∀y∈(zC3 ps one.toNat).take i,y∉cl->vis aw y)
  (zFW (zAL (x:=zGE many ps) (y:=.int one) rfl rfl (zW9 h0 ho))) ⟨aw1,later1,u10,rfl,B1,λ_ h=>h,λy h=>by simp at h⟩
  (λi d E hd ⟨aw,later,u,hE,B,mo,ex⟩=>by
   subst hE
   rw[List.getElem?_map] at hd
   obtain⟨y,hy,rfl⟩:=Option.map_eq_some_iff.mp hd
   have hyp:(one,y)∈ps:=by
    have:=mem_succs.mp (List.mem_of_getElem? hy)
    rwa [show((one.toNat:Nat):Int)=one by lia] at this
   obtain⟨_,_,y0,y1⟩:=R.rg _ hyp
   simp only at y0 y1
   obtain⟨w,hw⟩:=(mo one hv).2
   have hcn:=B.cnt
   obtain⟨aw',later',e,h⟩:=zXA (ps:=ps) (cl:=cl) (start:=start) (row:=row) (later:=later) B.len h0 hw y0 y1 (by lia)
   refine⟨_,rfl,_,e,aw',later',_,rfl,?_⟩
   have htk:(zC3 ps one.toNat).take (i+1)=(zC3 ps one.toNat).take i++[y]:=by
    obtain⟨hi,e⟩:=List.getElem?_eq_some_iff.mp hy
    rw[List.take_succ_eq_append_getElem hi,e]
   rcases h with⟨a,b,rfl,rfl⟩|⟨rfl,rfl,hz⟩
   ·have B':=B.step (v:=w) (mo one hv) hyp y0 (by lia) a b
    refine⟨B',λx hx=>(zD0 y0 (by rw[B.len];lia)).mpr (.inl (mo x hx)),λz hz hzc=>?_⟩
    rw[htk] at hz
    refine(zD0 y0 (by rw[B.len];lia)).mpr ?_
    rcases List.mem_append.mp hz with h|h
    ·exact .inl (ex z h hzc)
    ·exact .inr (List.mem_singleton.mp h)
   ·refine⟨B,mo,λz h hzc=>?_⟩
    rw[htk] at h
    rcases List.mem_append.mp h with h|h
    ·exact ex z h hzc
    ·rw[List.mem_singleton.mp h] at hzc ⊢;exact hz hzc)
 refine⟨aw,later,u,e,B,mo,λy hy hyc=>ex y ?_ hyc⟩
 rw[List.length_map,List.take_length]
 exact mem_succs.mpr (by rwa [show((one.toNat:Nat):Int)=one by lia])
end
section
variable{many:Int}{ps:List (Int×Int)}{cl:List Int}{start:Int}
theorem yAG{aw:List (Option Int)}{x:Int}{n:Nat}(hl:aw.length=n)(h:vis aw x):0<=x/\x<n:=by
 obtain⟨a,v,b⟩:=h
 have:=(List.getElem?_eq_some_iff.mp b).1
 exact⟨a,by lia⟩
theorem zTI(R:Rg many ps){aw0:List (Option Int)}{row:List Int}{u9 u10:Sl}(hl:aw0.length=many.toNat)(hrc:∀x,vis aw0 x->Rc ps cl start x)(hrow:∀x∈row,vis aw0 x) :
  ∃aw later u v,zED (zAX (zAB 7)) (.nm 9) yA0 (env many ps cl start aw0 row (zIR []) u9 u10)=.ok (.nx (env many ps cl start aw row (zIR later) u v))/\Bf ps cl start many.toNat aw0 aw later/\∀x∈row,∀y,(x,y)∈ps->y∉cl->vis aw y:=by
 have hc0:zKL aw0<=100:=by have:=zIK aw0;have:=R.m2;lia
 obtain⟨E',e,aw,later,u,v,rfl,B,ex⟩:=zCM (gi:=zAX (zAB 7)) (t:=.nm 9) (g:=yA0) (E:=env many ps cl start aw0 row (zIR []) u9 u10) (ds:=row.map D.int)
  (λi E=>∃aw later u v,E=env many ps cl start aw row (zIR later) u v/\Bf ps cl start many.toNat aw0 aw later/\∀x∈row.take i,∀y,(x,y)∈ps->y∉cl->vis aw y)
  (zFW rfl) ⟨aw0,[],u9,u10,rfl,⟨hl,λ_ h=>h,λ_ h=>.inl h,λ_ h=>by simp at h,hrc,rfl⟩,λy h=>by simp at h⟩
  (λi d E hd ⟨aw,later,u,v,hE,B,ex⟩=>by
   subst hE
   rw[List.getElem?_map] at hd
   obtain⟨x,hx,rfl⟩:=Option.map_eq_some_iff.mp hd
   have hvx:=B.mono x (hrow x (List.mem_of_getElem? hx))
   have hlt:=yAG B.len hvx
   obtain⟨aw',later',u',e,B',mo,ex'⟩:=zTH R (row:=row) (u10:=v) B hvx (by have:=R.m1;lia) hc0
   refine⟨_,rfl,_,e,aw',later',_,u',rfl,B',λz hz y hy hyc=>?_⟩
   obtain⟨hi,e⟩:=List.getElem?_eq_some_iff.mp hx
   rw[List.take_succ_eq_append_getElem hi,e] at hz
   rcases List.mem_append.mp hz with h|h
   ·exact mo y (ex z h y hy hyc)
   ·rw[List.mem_singleton.mp h] at hy;exact ex' y hy hyc)
 rw[List.length_map,List.take_length] at ex
 exact⟨aw,later,u,v,e,B,ex⟩
noncomputable abbrev whB:GS:=(zA2 (zCL 8 (zBM []))
 (zA2 (zED (zAX (zAB 7)) (.nm 9) yA0)
 (zCD (.nm 7) (zAB 8))))
theorem zTJ(R:Rg many ps){aw0:List (Option Int)}(hl:aw0.length=many.toNat)(hv:∀x,vis aw0 x↔x=start)(hs:start∉cl) :
  ∃aw u8 u9 u10,gWh (zKK (zAB 7)) whB 100000 (env many ps cl start aw0 [start] .no .no .no)=.ok (.nx (env many ps cl start aw [] u8 u9 u10))/\aw.length=many.toNat/\∀x,vis aw x↔Rc ps cl start x:=by
 have hc0:zKL aw0<=100:=by have:=zIK aw0;have:=R.m2;lia
 obtain⟨E',e,aw,u8,u9,u10,rfl,h1,h2⟩:=zJ3 (t:=zKK (zAB 7)) (g:=whB)
  (λn E=>∃aw row u8 u9 u10,E=env many ps cl start aw row u8 u9 u10/\aw.length=many.toNat/\(∀x,vis aw x->Rc ps cl start x)/\vis aw start/\(∀x∈row,vis aw x)/\(∀x,vis aw x->x∈row\/∀y,(x,y)∈ps->y∉cl->vis aw y)/\n=zKL aw+(if row=[] then 0 else 1))
  (λE=>∃aw u8 u9 u10,E=env many ps cl start aw [] u8 u9 u10/\aw.length=many.toNat/\∀x,vis aw x↔Rc ps cl start x)
  (λn E hP=>by
   obtain⟨aw,row,u8,u9,u10,hE,hl,hrc,hst,hrow,hex,hn⟩:=hP
   subst hE
   cases row with
   |nil =>
    refine .inl ⟨_,zQJ (d:=.lst []) rfl rfl,aw,u8,u9,u10,rfl,hl,λx=>⟨hrc x,λh=>?_⟩⟩
    induction h with
    |refl _=>exact hst
    |step _ he hc ih =>
     rcases hex _ ih with h|h
     ·simp at h
     ·exact h _ he hc
   |cons r row =>
    obtain⟨aw',later,u,v,e,B,ex⟩:=zTI R (row:=r::row) (u9:=u9) (u10:=u10) hl hrc hrow
    refine .inr ⟨_,env many ps cl start aw' later (.val (.lst (later.map D.int))) u v,zKL aw'+(if later=[] then 0 else 1),zQJ (d:=.lst ((r::row).map D.int)) rfl rfl,zAK (zBN (d:=.lst []) rfl) (zAK e (zBC (d:=.lst (later.map D.int)) rfl rfl)),?_,aw',later,_,_,_,rfl,B.len,B.rc,B.mono _ hst,B.lat,λx hx=>?_,rfl⟩
    ·have:=B.cnt
     rw[show(if(r::row:List Int)=[] then 0 else 1)=1 from if_neg (by simp)] at hn
     cases later with
     |nil=>simp at this ⊢;lia
     |cons a l=>simp at this ⊢;lia
    ·rcases B.new x hx with h|h
     ·refine .inr ?_
      rcases hex x h with h|h
      ·exact ex x h
      ·exact λy hy hc=>B.mono y (h y hy hc)
     ·exact .inl h) 100000 (zKL aw0+1) (env many ps cl start aw0 [start] .no .no .no) (by lia)
  ⟨aw0,[start],_,_,_,rfl,hl,λx h=>by rw[(hv x).mp h];exact .refl hs,(hv _).mpr rfl,λx h=>by rw[List.mem_singleton.mp h];exact(hv _).mpr rfl,λx h=>.inl (by rw[(hv x).mp h];simp),rfl⟩
 exact⟨aw,u8,u9,u10,e,h1,h2⟩
theorem zXB(R:Rg many ps):zA0 [.val (zB5 many ps)]=.ok (false,zGE many ps,.non):=by
 exact yB9 ⟨rfl,R.m1,R.m2,R.len,λp hp=>⟨(R.rg p hp).1,(R.rg p hp).2.1⟩⟩
theorem zXC(R:Rg many ps){E:Ev}(h3:E[3]?=some (.val (.int many)))(h2:E[2]?=some (.val (.tup (cl.map D.int))))(hb:∀Ec,bck E Ec 1 [2]=E):zDW (zLI (zAB 3)) 1 [2] (.nm 0) zQ4 (g2 inD (zAB 0) (zAB 1)) E=.ok (zLX many cl,E):=by
 have hm1:=R.m1
 have hm2:=R.m2
 have hg:zAB 3 E=.ok (.int many,E):=by simp[zAB,h3]
 have:=zFU (k:=1) (js:=[2]) (t:=.nm 0) (tt:=zQ4) (ge:=g2 inD (zAB 0) (zAB 1)) (λd=>match d with|.int j=>[.bl (decide (j∈cl))]|_=>[]) (λE=>∃x,E=[x,.val (.tup (cl.map D.int))]) (zQM hg ⟨by lia,by lia⟩) ⟨.no,by simp[zK9,h2]⟩ (by simp[zGX];lia) (λd hd E ⟨x,hE⟩=>by
  subst hE
  obtain⟨j,_,rfl⟩:=List.mem_map.mp hd
  exact⟨_,rfl,true,_,rfl,.inl ⟨rfl,_,_,zAL (x:=.int (0+(j:Int))) (y:=.tup (cl.map D.int)) rfl rfl (zLN _ _),rfl,_,rfl⟩⟩) λEc _=>hb Ec
 rw[this]
 congr 3
 simp only[zLX,zGX]
 clear this
 rw[List.flatMap_map]
 generalize List.range many.toNat=l
 induction l with
 |nil=>rfl
 |cons p ps ih=>simp only[List.map_cons,List.flatMap_cons];rw[ih];simp
theorem zXD(R:Rg many ps)(h0:0<=start)(h1:start<many):∃aw,zCJ [.val (zB5 many ps),.val (.int start),.val (.tup (cl.map D.int))]=.ok (false,.lst (aw.map zC4),.non)/\aw.length=many.toNat/\∀x,vis aw x↔Rc ps cl start x:=by
 have hm1:=R.m1
 have hm2:=R.m2
 obtain⟨aw1,haw1⟩:∃aw1:List (Option Int),aw1=List.replicate many.toNat none:=⟨_,rfl⟩
 have hrep:zN3 (.lst [.non]) (.int many)=.ok (.lst (aw1.map zC4)):=by
  have e:(List.replicate many.toNat [D.non]).flatten=aw1.map zC4:=by
   rw[haw1,List.map_replicate]
   generalize many.toNat=n
   induction n with
   |zero=>rfl
   |succ n ih=>rw[List.replicate_succ,List.replicate_succ,List.flatten_cons,ih];rfl
  simp only[zN3,L2.guard]
  rw[if_pos ⟨by lia,by lia,by simp;lia⟩,e]
 have hv1:∀x,¬vis aw1 x:=by
  rintro x ⟨_,v,b⟩
  rw[haw1,List.getElem?_replicate] at b
  split at b<;>simp at b
 obtain⟨E3,hE3⟩:∃E3:Ev,E3=[.val (zB5 many ps),.val (.int start),.val (.tup (cl.map D.int)),.val (.int many),.own false (.lst (aw1.map zC4)),.no,.no,.no,.no,.no,.no]:=⟨_,rfl⟩
 have tin:gB (g2 inD (zAB 1) (zAB 2)) E3=.ok (decide (start∈cl),E3):=by
  rw[hE3];exact zB4 (zAL (x:=.int start) (y:=.tup (cl.map D.int)) rfl rfl (zLN _ _))
 have s1:∀{g:GS} {r:Out Fl},g E3=r->(zA2 (zCD (.nm 3) (g2 ixD (zAB 0) (gC (.int 0)))) (zA2 (zCL 4 (g2 zN3 (zBM [(gC .non)]) (zAB 3))) g)) ([.val (zB5 many ps),.val (.int start),.val (.tup (cl.map D.int))]++List.replicate 8 .no)=r:=λh =>
  zAK (zBC (d:=.int many) (zAL (x:=zB5 many ps) (y:=.int 0) rfl rfl rfl) rfl) (zAK (zBN (zAL (x:=.lst [.non]) (y:=.int many) rfl rfl hrep)) (by rw[hE3] at h;exact h))
 by_cases hs:start∈cl
 ·rw[decide_eq_true hs] at tin
  refine⟨aw1,zDH (s1 (zMR (b:=false) (d:=.lst (aw1.map zC4)) (zS2 tin (zCA (by rw[hE3];rfl))))) rfl,by rw[haw1];simp,λx=>⟨λh=>absurd h (hv1 x),λh=>?_⟩⟩
  induction h with
  |refl h=>exact absurd hs h
  |step _ _ _ ih=>exact absurd ih (hv1 _)
 ·rw[decide_eq_false hs] at tin
  have hset:∀x,vis (aw1.set start.toNat (some 0)) x↔x=start:=λx=>by
   rw[zD0 h0 (by rw[haw1];simp;lia)]
   exact⟨λh=>h.resolve_left (hv1 x),.inr⟩
  obtain⟨aw,u8,u9,u10,ew,hl,hr⟩:=zTJ (cl:=cl) (start:=start) R (aw0:=aw1.set start.toNat (some 0)) (by rw[haw1];simp) hset hs
  refine⟨aw,zDH (s1 (zAK (zLL tin rfl) (zAK (E1:=E3.set 5 (.val (zGE many ps))) (zBC (zB0 (ds:=[zB5 many ps]) (by rw[hE3];rfl) (zXB R)) rfl) (zAK (E1:=(E3.set 5 (.val (zGE many ps))).set 6 (.val (zLX many cl))) (zBC (zXC R (by rw[hE3];rfl) (by rw[hE3];rfl) (λEc=>by rw[hE3];rfl)) rfl)
   (zAK (E1:=(((E3.set 5 (.val (zGE many ps))).set 6 (.val (zLX many cl))).set 4 (.own false (.lst ((aw1.set start.toNat (some 0)).map zC4))))) ?_ (zAK (E1:=env many ps cl start (aw1.set start.toNat (some 0)) [start] .no .no .no) (zBC (d:=.lst [.int start]) (by rw[hE3];rfl) (by first|rfl|(rw[hE3];rfl))) (zAK ew (zCA (d:=.lst (aw.map zC4)) rfl)))))))) rfl,hl,hr⟩
  rw[hE3]
  exact zAZ (i:=4) (gk:=zAB 1) (gv:=gC (.int 0)) (t:=false) (d:=.lst (aw1.map zC4)) (v:=.int 0) (k:=.int start) (d':=.lst ((aw1.set start.toNat (some 0)).map zC4)) rfl rfl rfl rfl (by
     rw[zWV (zQH h0 (by rw[List.length_map,haw1];simp;lia)),List.map_set];rfl)
end
noncomputable def zQ9:List (Option Int)->Nat->List Int
 |[],_=>[]
 |none::r,k=>zQ9 r (k+1)
 |some _::r,k=>(k:Int)::zQ9 r (k+1)
theorem mem_visL:∀{aw:List (Option Int)} {k:Nat} {x:Int},x∈zQ9 aw k↔(k:Int)<=x/\∃v,aw[x.toNat-k]?=some (some v)
 |[],k,x=>by simp[zQ9]
 |none::r,k,x=>by
  rw[zQ9,mem_visL]
  constructor
  ·rintro⟨a,v,b⟩
   refine⟨by lia,v,?_⟩
   rw[show x.toNat-k=(x.toNat-(k+1))+1 by lia,List.getElem?_cons_succ];exact b
  ·rintro⟨a,v,b⟩
   by_cases e:x=k
   ·subst e;simp at b
   ·refine⟨by lia,v,?_⟩
    rw[show x.toNat-k=(x.toNat-(k+1))+1 by lia,List.getElem?_cons_succ] at b;exact b
 |some w::r,k,x=>by
  rw[zQ9,List.mem_cons,mem_visL]
  constructor
  ·rintro(rfl|⟨a,v,b⟩)
   ·exact⟨Int.le_refl _,w,by simp⟩
   ·refine⟨by lia,v,?_⟩
    rw[show x.toNat-k=(x.toNat-(k+1))+1 by lia,List.getElem?_cons_succ];exact b
  ·rintro⟨a,v,b⟩
   by_cases e:x=k
   ·exact .inl e
   ·refine .inr ⟨by lia,v,?_⟩
    rw[show x.toNat-k=(x.toNat-(k+1))+1 by lia,List.getElem?_cons_succ] at b;exact b
theorem zLY:∀(aw:List (Option Int)) (k:Nat),(zQ9 aw k).Pairwise (· < ·)
 |[],_=>.nil
 |none::r,k=>zLY r (k+1)
 |some _::r,k=>List.pairwise_cons.mpr ⟨λx h=>by have:=(mem_visL.mp h).1;lia,zLY r (k+1)⟩
noncomputable def zXE(d:D):List D:=match d with
 |.tup [_,.non]=>[]
 |.tup [i,_]=>[i]
 |_=>[]
theorem zIL:∀(aw:List (Option Int)) (k:Nat),(((aw.map zC4).zipIdx k).map λp=>D.tup [.int (p.2:Int),p.1]).flatMap zXE=(zQ9 aw k).map D.int
 |[],_=>rfl
 |none::r,k=>by simp only[List.map_cons,List.zipIdx_cons,List.flatMap_cons,zIL r (k+1)];rfl
 |some _::r,k=>by simp only[List.map_cons,List.zipIdx_cons,List.flatMap_cons,zIL r (k+1)];rfl
section
variable{many:Int}{ps:List (Int×Int)}{cl:List Int}{start:Int}
theorem zQP(R:Rg many ps)(h0:0<=start)(h1:start<many):∃xs:List Int,zA8 [.val (zB5 many ps),.val (.int start),.val (.tup (cl.map D.int))]=.ok (false,.tup (xs.map D.int),.non)/\xs.Pairwise (· < ·)/\∀x,x∈xs↔Rc ps cl start x:=by
 obtain⟨aw,e,hl,hr⟩:=zXD (cl:=cl) R h0 h1
 have hm2:=R.m2
 refine⟨zQ9 aw 0,?_,zLY aw 0,λx=>?_⟩
 ·have hc:=zFU (gi:=zP8 (zAB 3)) (k:=2) (js:=[]) (t:=.tp [.nm 0,.nm 1]) (tt:=gB (g2 zPS (zAB 1) (gC .non))) (ge:=zAB 0) (E:=[.val (zB5 many ps),.val (.int start),.val (.tup (cl.map D.int)),.val (.lst (aw.map zC4))]) (E1:=[.val (zB5 many ps),.val (.int start),.val (.tup (cl.map D.int)),.val (.lst (aw.map zC4))]) (ds:=zJ0 (aw.map zC4)) zXE (λE=>E.length=2) rfl rfl (by simp[zJ0];lia) (λd hd E hE=>by
   obtain⟨⟨o,j⟩,ho,rfl⟩:=List.mem_map.mp hd
   obtain⟨x,y,rfl⟩:=yAE hE
   have:∃w,zC4 w=o:=by
    have:=List.mem_zipIdx ho
    obtain⟨w,_,hw⟩:=List.mem_map.mp (List.mem_of_getElem (this.2.2.symm))
    exact⟨w,hw⟩
   obtain⟨w,rfl⟩:=this
   cases w with
   |none=>exact⟨_,rfl,false,_,rfl,.inr ⟨rfl,rfl,rfl⟩⟩
   |some w=>exact⟨_,rfl,true,_,rfl,.inl ⟨rfl,_,_,rfl,rfl,rfl⟩⟩) λEc _=>zLV Ec 2 0 _
  have hf:(zJ0 (aw.map zC4)).flatMap zXE=(zQ9 aw 0).map D.int:=zIL aw 0
  rw[hf] at hc
  exact zDH (zAK (zBC (zB0 (ds:=[zB5 many ps,.int start,.tup (cl.map D.int)]) rfl e) rfl) (zCA (zCR (zA6 hc) rfl))) rfl
 ·rw[mem_visL,<-hr]
  exact Iff.rfl
theorem zG3(R:Rg many ps)(h0:0<=start)(h1:start<many):∃xs:List Int,zCB [.val (zB5 many ps),.val (.int start)]=.ok (false,.tup (xs.map D.int),.non)/\xs.Pairwise (· < ·)/\∀x,x∈xs↔Rc ps [] start x:=by
 obtain⟨xs,e,h⟩:=zQP (cl:=[]) R h0 h1
 exact⟨xs,zDH (zCA (zB0 (ds:=[zB5 many ps,.int start,.tup []]) rfl e)) rfl,h⟩
end
noncomputable def sc(ps:List (Int×Int))(x:Int):List Int:=(ps.filter λp=>decide (p.1=x)).map (·.2)
theorem mem_sc{ps:List (Int×Int)}{x y:Int}:y∈sc ps x↔(x,y)∈ps:=by
 unfold sc
 constructor
 ·intro h
  obtain⟨p,hp,rfl⟩:=List.mem_map.mp h
  obtain⟨hp,e⟩:=List.mem_filter.mp hp
  have:=of_decide_eq_true e
  rw[<-this];exact hp
 ·intro h
  exact List.mem_map.mpr ⟨_,List.mem_filter.mpr ⟨h,decide_eq_true rfl⟩,rfl⟩
theorem yAH(ps:List (Int×Int))(x:Int):(sc ps x).length<=ps.length:=by
 unfold sc;rw[List.length_map];exact List.length_filter_le _ _
theorem zF3:∀ns:List Int,D.nods (ns.map D.int)=true
 |[]=>by simp[D.nods]
 |n::ns=>by simp[D.nods,D.nod,zF3 ns]
theorem zG4:∀ns:List Int,D.flats (ns.map D.int)=true
 |[]=>by simp[D.flats]
 |n::ns=>by simp[D.flats,D.flat,zG4 ns]
theorem zUN(x:Int)(c:Option Int):neD (.int x) (zC4 c)=.ok (.bl (decide (x∉c.toList))):=by
 cases c with
 |none=>rw[zC4,zS4];simp
 |some c=>rw[zC4,zH8];simp
noncomputable def fsD(fs:List Int):D:=.dk (fs.map λx=>(.inl x,.bl true))
theorem zXF(fs:List Int)(x:Int):(zDX (κ:=Key) (fs.map λx=>(.inl x,.bl true)) (.inl x)).isSome=decide (x∈fs):=by
 unfold zDX
 induction fs with
 |nil=>rfl
 |cons a fs ih =>
  rw[List.map_cons,List.find?_cons]
  by_cases e:a=x
  ·subst e;simp
  ·have e2:¬((Sum.inl a:Key)=.inl x):=λz=>e (Sum.inl.inj z)
   simp only[e2,decide_false,ih]
   have:¬x=a:=λz=>e z.symm
   simp[this]
theorem zXG{fs:List Int}{x:Int}(h:x∉fs):zEE (κ:=Key) (fs.map λx=>(.inl x,.bl true)) (.inl x) (.bl true)=(fs++[x]).map λx=>(.inl x,.bl true):=by
 unfold zEE
 rw[if_neg]
 ·simp
 ·rw[List.any_map]
  intro z
  obtain⟨a,ha,e⟩:=List.any_eq_true.mp z
  have:=Sum.inl.inj (of_decide_eq_true e)
  exact h (this▸ha)
section
variable{many:Int}{ps:List (Int×Int)}{closed:Option Int}{gate:Int}
noncomputable def zKM(many:Int)(ps:List (Int×Int))(closed:Option Int)(gate:Int)(u3 u4 u5 u6 u7:Sl):Ev:=[.val (zB5 many ps),.val (.int gate),.val (zC4 closed),u3,u4,u5,u6,u7]
def Tab(ps:List (Int×Int))(kvs:List (Key×D)):Prop:=∀x:Int,(zDX kvs (.inl x)).getD (.lst [])=.lst ((sc ps x).map D.int)
theorem zTK(hl:ps.length<=1000):∃kvs u4 u5,zED (zAX (g2 ixD (zAB 0) (gC (.int 1)))) (.tp [(.nm 4),(.nm 5)])
 (zAO 3 (zAB 4) (zD8 [3] (g2 zC1 (zP5 (zAB 3) (zAB 4) (zBM [])) (zBM [(zAB 5)])))) (zKM many ps closed gate (.own false (.dk [])) .no .no .no .no)=.ok (.nx (zKM many ps closed gate (.own false (.dk kvs)) u4 u5 .no .no))/\Tab ps kvs:=by
 obtain⟨E',e,kvs,u4,u5,rfl,hk,ht⟩:=zCM (gi:=zAX (g2 ixD (zAB 0) (gC (.int 1)))) (t:=.tp [(.nm 4),(.nm 5)]) (g:=zAO 3 (zAB 4) (zD8 [3] (g2 zC1 (zP5 (zAB 3) (zAB 4) (zBM [])) (zBM [(zAB 5)])))) (E:=zKM many ps closed gate (.own false (.dk [])) .no .no .no .no) (ds:=ps.map zDF)
  (λi E=>∃kvs u4 u5,E=zKM many ps closed gate (.own false (.dk kvs)) u4 u5 .no .no/\kvs.length<=i/\Tab (ps.take i) kvs) (zID (zAL (x:=zB5 many ps) (y:=.int 1) rfl rfl rfl)) ⟨[],_,_,rfl,Nat.le_refl _,λx=>rfl⟩
  (λi d E hd hP=>by
   obtain⟨kvs,u4,u5,hE,hk,ht⟩:=hP
   subst hE
   rw[List.getElem?_map] at hd
   obtain⟨⟨a,b⟩,hp,rfl⟩:=Option.map_eq_some_iff.mp hd
   have hil:=(List.getElem?_eq_some_iff.mp hp).1
   have hsl:=yAH (ps.take i) a
   rw[List.length_take] at hsl
   have hf:=zDZ (λp:Int×Int=>decide (p.1=a)) hp
   have hg:zP5 (zAB 3) (zAB 4) (zBM []) (zDO [3] (zKM many ps closed gate (.own false (.dk kvs)) (.val (.int a)) (.val (.int b)) .no .no))=.ok (.lst ((sc (ps.take i) a).map D.int),zDO [3] (zKM many ps closed gate (.own false (.dk kvs)) (.val (.int a)) (.val (.int b)) .no .no)):=by
    have:=zUH (gd:=zAB 3) (gk:=zAB 4) (gx:=zBM []) (E:=zDO [3] (zKM many ps closed gate (.own false (.dk kvs)) (.val (.int a)) (.val (.int b)) .no .no)) (a:=.dk kvs) (k:=.int a) (x:=.lst []) (o:=zDX kvs (.inl a)) rfl rfl rfl rfl
    rw[ht a] at this
    exact this
   have hb:zD8 [3] (g2 zC1 (zP5 (zAB 3) (zAB 4) (zBM [])) (zBM [(zAB 5)])) (zKM many ps closed gate (.own false (.dk kvs)) (.val (.int a)) (.val (.int b)) .no .no)=.ok (.lst ((sc (ps.take (i+1)) a).map D.int),zKM many ps closed gate (.own false (.dk kvs)) (.val (.int a)) (.val (.int b)) .no .no):=by
    refine zC7 (zAL hg (y:=.lst [.int b]) rfl ?_) ?_
    ·refine zZ7 (by rw[List.length_map];show _+1<10000;lia) ?_
     unfold sc
     rw[hf,if_pos (decide_eq_true rfl)]
     simp
    ·simp only[zD7,zKM,D.flat,D.nod,zF3];rfl
   refine⟨_,rfl,_,zAZ (i:=3) (t:=false) (d:=.dk kvs) (k:=.int a) (d':=.dk (zEE kvs (.inl a) (.lst ((sc (ps.take (i+1)) a).map D.int)))) rfl hb rfl rfl (by simp only[zWG,zHZ];rw[zEJ (by lia)]),zEE kvs (.inl a) (.lst ((sc (ps.take (i+1)) a).map D.int)),_,_,rfl,Nat.le_trans (zIB _ _ _) (by lia),λx=>?_⟩
   by_cases ex:x=a
   ·subst ex;rw[zIA];rfl
   ·rw[zLP _ _ (λz=>ex (Sum.inl.inj z)),ht x]
    have hf:=zDZ (λp:Int×Int=>decide (p.1=x)) hp
    unfold sc
    rw[hf,if_neg (by simp only[decide_eq_true_eq];exact λz=>ex z.symm),List.append_nil])
 rw[List.length_map,List.take_length] at ht
 exact⟨kvs,u4,u5,e,ht⟩
end
section
variable{many:Int}{ps:List (Int×Int)}{closed:Option Int}{gate:Int}
noncomputable abbrev rcB:GS:=zE7 (zBY [6] (zEZ (gB (g2 neD (zAB 5) (zAB 2))) (gB (g2 zB1 (zAB 5) (zAB 6)))))
 (zA2 (zAO 6 (zAB 5) (gC (.bl true)))
 (zFM (zB3 7 zIQ [(zAB 5)])))
 gNx
noncomputable def zEL(many:Int)(ps:List (Int×Int))(closed:Option Int)(gate:Int)(u3 u4 u5:Sl)(fs row:List Int):Ev:=zKM many ps closed gate u3 u4 u5 (.own false (fsD fs)) (.own false (.lst (row.map D.int)))
theorem zTL(x:Int)(fs:List Int):zB1 (.int x) (fsD fs)=.ok (.bl (decide (x∉fs))):=by
 have:=zXF fs x
 simp only[zB1,inD,fsD,zJR,zHZ,Option.map_some]
 simp only[Out.bind,this]
 simp
theorem yCB {u3 u4 : Sl} {fs row : List Int} {y : Int} (hf : fs.length < 10000) (hr : row.length < 10000) :
    ∃ fs' row', rcB (zEL many ps closed gate u3 u4 (.val (.int y)) fs row) = .ok (.nx (zEL many ps closed gate u3 u4 (.val (.int y)) fs' row')) ∧
      ((y ∉ closed.toList ∧ y ∉ fs ∧ fs' = fs ++ [y] ∧ row' = row ++ [y]) ∨ ((y ∈ closed.toList ∨ y ∈ fs) ∧ fs' = fs ∧ row' = row)) := by
  obtain ⟨E0, hE0⟩ : ∃ E0, E0 = zDO [6] (zEL many ps closed gate u3 u4 (.val (.int y)) fs row) := ⟨_, rfl⟩
  have t1 : gB (g2 neD (zAB 5) (zAB 2)) E0 = .ok (decide (y ∉ closed.toList), E0) := by
    rw [hE0]; exact zB4 (zAL (x := .int y) (y := zC4 closed) rfl rfl (zUN _ _))
  have t2 : gB (g2 zB1 (zAB 5) (zAB 6)) E0 = .ok (decide (y ∉ fs), E0) := by
    rw [hE0]; exact zB4 (zAL (x := .int y) (y := fsD fs) rfl rfl (zTL _ _))
  by_cases hc : y ∈ closed.toList
  · rw [decide_eq_false (fun z => z hc)] at t1
    exact ⟨fs, row, zLL (zBD (by rw [← hE0]; exact zMU t1)) rfl, .inr ⟨.inl hc, rfl, rfl⟩⟩
  rw [decide_eq_true hc] at t1
  by_cases hm : y ∈ fs
  · rw [decide_eq_false (fun z => z hm)] at t2
    exact ⟨fs, row, zLL (zBD (by rw [← hE0]; exact zFV t1 t2)) rfl, .inr ⟨.inr hm, rfl, rfl⟩⟩
  rw [decide_eq_true hm] at t2
  refine ⟨fs ++ [y], row ++ [y], zS2 (zBD (by rw [← hE0]; exact zFV t1 t2)) (zAK (E1 := zEL many ps closed gate u3 u4 (.val (.int y)) (fs ++ [y]) row) ?_ ?_), .inl ⟨hc, hm, rfl, rfl⟩⟩
  · exact zAZ (i := 6) (gk := zAB 5) (gv := gC (.bl true)) (E := zEL many ps closed gate u3 u4 (.val (.int y)) fs row) (E1 := zEL many ps closed gate u3 u4 (.val (.int y)) fs row) (E2 := zEL many ps closed gate u3 u4 (.val (.int y)) fs row) (t := false) (d := fsD fs) (k := .int y) (v := .bl true) (d' := fsD (fs ++ [y])) rfl rfl rfl rfl (by
      exact (zZ9 (by rw [List.length_map]; exact hf)).trans (by rw [zXG hm]; rfl))
  · have := zEK (i := 7) (f := zIQ) (gs := [zAB 5]) (E := zEL many ps closed gate u3 u4 (.val (.int y)) (fs ++ [y]) row) (xs := row.map D.int) (ds := [.int y]) (x := .non) (ds' := (row ++ [y]).map D.int) rfl rfl rfl (by
          simp only [zIQ, List.length_map]
          rw [zEJ hr]; simp)
    exact zIC this
structure Fd(ps:List (Int×Int))(cl:List Int)(gate many:Int)(fs row:List Int):Prop where
 nd:fs.Nodup
 rc:∀x∈fs,Rc ps cl gate x
 rg:∀x∈fs,0<=x/\x<many
 sub:∀x∈row,x∈fs
theorem Fd.len{cl:List Int}{fs row:List Int}(F:Fd ps cl gate many fs row):fs.length<=many.toNat:=by
 have:=List.Nodup.length_le_of_subset (l₂:=(List.range many.toNat).map λ(j:Nat)=>(j:Int)) F.nd (λx hx=>by
  obtain⟨a,b⟩:=F.rg x hx
  exact List.mem_map.mpr ⟨x.toNat,List.mem_range.mpr (by lia),by lia⟩)
 simpa using this
theorem zXH(R:Rg many ps){kvs:List (Key×D)}{u4 u5:Sl}{fs0 row0:List Int}{r:Int}(hr:r∈fs0)(F0:Fd ps closed.toList gate many fs0 row0)(hrl:row0.length<=fs0.length) :
  ∃fs row u,zCP (.nm 5) rcB ((sc ps r).map D.int) (zEL many ps closed gate (.val (.dk kvs)) u4 u5 fs0 row0)=.ok (.nx (zEL many ps closed gate (.val (.dk kvs)) u4 u fs row))/\Fd ps closed.toList gate many fs row/\(∀x∈fs0,x∈fs)/\(∀x∈row0,x∈row)/\(∀x∈fs,x∈fs0\/x∈row)/\fs.length+row0.length=row.length+fs0.length/\∀y,(r,y)∈ps->y∉closed.toList->y∈fs:=by
 have hm2:=R.m2
 obtain⟨E',e,fs,row,u,rfl,F,a,b,c,d,ex⟩:=zFC (t:=.nm 5) (g:=rcB) (λi E=>∃fs row u,E=zEL many ps closed gate (.val (.dk kvs)) u4 u fs row/\Fd ps closed.toList gate many fs row/\(∀x∈fs0,x∈fs)/\(∀x∈row0,x∈row)/\(∀x∈fs,x∈fs0\/x∈row)/\fs.length+row0.length=row.length+fs0.length/\∀y∈(sc ps r).take i,y∉closed.toList->y∈fs)
  (ds:=(sc ps r).map D.int) (E:=zEL many ps closed gate (.val (.dk kvs)) u4 u5 fs0 row0) 0 ⟨fs0,row0,u5,rfl,F0,λ_ h=>h,λ_ h=>h,λ_ h=>.inl h,by lia,λy h=>by simp at h⟩
  (λi d E hd hP=>by
   rw[Nat.zero_add] at hP ⊢
   obtain⟨fs,row,u,hE,F,a,b,c,hlen,ex⟩:=hP
   subst hE
   rw[List.getElem?_map] at hd
   obtain⟨y,hy,rfl⟩:=Option.map_eq_some_iff.mp hd
   have hyp:(r,y)∈ps:=mem_sc.mp (List.mem_of_getElem? hy)
   obtain⟨_,_,y0,y1⟩:=R.rg _ hyp
   have hfl:=F.len
   obtain⟨fs',row',e,h⟩:=yCB (many:=many) (ps:=ps) (closed:=closed) (gate:=gate) (u3:=.val (.dk kvs)) (u4:=u4) (fs:=fs) (row:=row) (y:=y) (by lia) (by lia)
   have htk:(sc ps r).take (i+1)=(sc ps r).take i++[y]:=by
    obtain⟨hi,e⟩:=List.getElem?_eq_some_iff.mp hy
    rw[List.take_succ_eq_append_getElem hi,e]
   refine⟨_,rfl,_,e,fs',row',_,rfl,?_⟩
   rw[htk]
   rcases h with⟨hc,hm,rfl,rfl⟩|⟨hor,rfl,rfl⟩
   ·refine⟨⟨?_,?_,?_,?_⟩,λx hx=>List.mem_append_left _ (a x hx),λx hx=>List.mem_append_left _ (b x hx),?_,by simp;lia,?_⟩
    ·rw[List.nodup_append]
     exact⟨F.nd,List.nodup_cons.mpr ⟨by simp,List.nodup_nil⟩,λp hp q hq=>by rw[List.mem_singleton.mp hq];exact λz=>hm (z▸hp)⟩
    ·intro x hx
     rcases List.mem_append.mp hx with h|h
     ·exact F.rc x h
     ·rw[List.mem_singleton.mp h];exact .step (F.rc r (a r hr)) hyp hc
    ·intro x hx
     rcases List.mem_append.mp hx with h|h
     ·exact F.rg x h
     ·rw[List.mem_singleton.mp h];exact⟨y0,y1⟩
    ·intro x hx
     rcases List.mem_append.mp hx with h|h
     ·exact List.mem_append_left _ (F.sub x h)
     ·exact List.mem_append_right _ h
    ·intro x hx
     rcases List.mem_append.mp hx with h|h
     ·rcases c x h with h|h
      ·exact .inl h
      ·exact .inr (List.mem_append_left _ h)
     ·exact .inr (List.mem_append_right _ h)
    ·intro z hz hzc
     rcases List.mem_append.mp hz with h|h
     ·exact List.mem_append_left _ (ex z h hzc)
     ·exact List.mem_append_right _ h
   ·refine⟨F,a,b,c,hlen,λz hz hzc=>?_⟩
    rcases List.mem_append.mp hz with h|h
    ·exact ex z h hzc
    ·rw[List.mem_singleton.mp h] at hzc ⊢
     exact hor.resolve_left hzc)
 refine⟨fs,row,u,e,F,a,b,c,d,λy hy hyc=>ex y ?_ hyc⟩
 rw[Nat.zero_add,List.length_map,List.take_length]
 exact mem_sc.mpr hy
theorem zQQ(R:Rg many ps){kvs:List (Key×D)}(ht:Tab ps kvs){u3 u4 u5:Sl}(hu3:u3=.own false (.dk kvs)\/u3=.val (.dk kvs)){fs0:List Int}(F0:Fd ps closed.toList gate many fs0 fs0)(hg:gate∈closed.toList\/gate∈fs0) :
  ∃fs v3 v5,gWh (zBY [7] (gB (g2 neD (zAB 7) (zBM [])))) (zED (zAX (zP5 (zAB 3) (zB3 7 zQ6 []) (zBM []))) (.nm 5) rcB) 100000 (zEL many ps closed gate u3 u4 u5 fs0 fs0)=.ok (.nx (zEL many ps closed gate v3 u4 v5 fs []))/\fs.Nodup/\∀x,x∈fs↔Rc ps closed.toList gate x:=by
 have hm2:=R.m2
 obtain⟨E',e,fs,u3',u5',rfl,h1,h2⟩:=zJ3 (t:=zBY [7] (gB (g2 neD (zAB 7) (zBM [])))) (g:=zED (zAX (zP5 (zAB 3) (zB3 7 zQ6 []) (zBM []))) (.nm 5) rcB)
  (λn E=>∃fs row u3 u5,E=zEL many ps closed gate u3 u4 u5 fs row/\(u3=.own false (.dk kvs)\/u3=.val (.dk kvs))/\Fd ps closed.toList gate many fs row/\(gate∈closed.toList\/gate∈fs)/\(∀x∈fs,x∈row\/∀y,(x,y)∈ps->y∉closed.toList->y∈fs)/\row.length<=fs.length/\n=2 * (many.toNat-fs.length)+row.length)
  (λE=>∃fs u3 u5,E=zEL many ps closed gate u3 u4 u5 fs []/\fs.Nodup/\∀x,x∈fs↔Rc ps closed.toList gate x)
  (λn E hP=>by
   obtain⟨fs,row,u3,u5,hE,hu3,F,hg,hex,hrl,hn⟩:=hP
   subst hE
   have tw:zBY [7] (gB (g2 neD (zAB 7) (zBM []))) (zEL many ps closed gate u3 u4 u5 fs row)=.ok (!(row.map D.int).isEmpty,zEL many ps closed gate u3 u4 u5 fs row) :=
    zBD (zB4 (zAL (x:=.lst (row.map D.int)) (y:=.lst []) rfl rfl (zLM (Pls.ints 0 row))))
   rcases List.eq_nil_or_concat row with rfl|⟨row',r,hrr⟩
   ·refine .inl ⟨_,tw,fs,u3,u5,rfl,F.nd,λx=>⟨F.rc x,λh=>?_⟩⟩
    induction h with
    |refl h=>exact hg.resolve_left h
    |step _ he hc ih =>
     rcases hex _ ih with h|h
     ·simp at h
     ·exact h _ he hc
   ·rw[List.concat_eq_append] at hrr
    subst hrr
    have hrf:r∈fs:=F.sub r (by simp)
    rw[List.length_append,List.length_singleton] at hrl hn
    have F':Fd ps closed.toList gate many fs row':=⟨F.nd,F.rc,F.rg,λx hx=>F.sub x (List.mem_append_left _ hx)⟩
    obtain⟨fs2,row2,u,e,F2,a,b,c,d,ex⟩:=zXH (kvs:=kvs) (u4:=u4) (u5:=u5) R hrf F' (by lia)
    have hfl:=F2.len
    have hfl2:=F.len
    have hfl3:=List.Nodup.length_le_of_subset F.nd a
    have hpop:zB3 7 zQ6 [] (zEL many ps closed gate (.val (.dk kvs)) u4 u5 fs (row'++[r]))=.ok (.int r,zEL many ps closed gate (.val (.dk kvs)) u4 u5 fs row') :=
     zEK (i:=7) (f:=zQ6) (gs:=[]) (t:=false) (xs:=(row'++[r]).map D.int) (ds:=[]) (x:=.int r) (ds':=row'.map D.int) rfl rfl rfl (by simp[zQ6])
    have hgi:zAX (zP5 (zAB 3) (zB3 7 zQ6 []) (zBM [])) (zEL many ps closed gate u3 u4 u5 fs (row'++[r]))=.ok ((sc ps r).map D.int,zEL many ps closed gate (.val (.dk kvs)) u4 u5 fs row'):=by
     have h3:zAB 3 (zEL many ps closed gate u3 u4 u5 fs (row'++[r]))=.ok (.dk kvs,zEL many ps closed gate (.val (.dk kvs)) u4 u5 fs (row'++[r])):=by
      rcases hu3 with rfl|rfl<;>rfl
     have:=zUH (gx:=zBM []) (x:=.lst []) (o:=zDX kvs (.inl r)) h3 hpop rfl rfl
     rw[ht r] at this
     exact zFW this
    refine .inr ⟨_,_,2 * (many.toNat-fs2.length)+row2.length,?_,zAH hgi e,by lia,fs2,row2,_,u,rfl,.inr rfl,F2,hg.imp id (a _),λx hx=>?_,by lia,rfl⟩
    ·rw[tw];simp
    ·rcases c x hx with h|h
     ·rcases hex x h with h|h
      ·rcases List.mem_append.mp h with h|h
       ·exact .inl (b x h)
       ·rw[List.mem_singleton.mp h];exact .inr ex
      ·exact .inr λy hy hyc=>a y (h y hy hyc)
     ·exact .inl h) 100000 (2 * (many.toNat-fs0.length)+fs0.length) (zEL many ps closed gate u3 u4 u5 fs0 fs0) (by have:=F0.len;lia)
  ⟨fs0,fs0,u3,u5,rfl,hu3,F0,hg,λx h=>.inl h,Nat.le_refl _,rfl⟩
 exact⟨fs,u3',u5',e,h1,h2⟩
theorem zKD(R:Rg many ps)(h0:0<=gate)(h1:gate<many):∃fs:List Int,zBJ [.val (zB5 many ps),.val (.int gate),.val (zC4 closed)]=.ok (false,.lst (fs.map D.int),.non)/\fs.Nodup/\∀x,x∈fs↔Rc ps closed.toList gate x:=by
 obtain⟨kvs,u4,u5,e1,ht⟩:=zTK (many:=many) (ps:=ps) (closed:=closed) (gate:=gate) R.len
 obtain⟨fs0,hfs,F0,hg⟩:∃fs0:List Int,(gIf (gB (g2 neD (zAB 1) (zAB 2))) (zP4 (zAB 1) (gC (.bl true))) (gC (.dk []))) (zKM many ps closed gate (.own false (.dk kvs)) u4 u5 .no .no)=.ok (fsD fs0,zKM many ps closed gate (.own false (.dk kvs)) u4 u5 .no .no)/\Fd ps closed.toList gate many fs0 fs0/\(gate∈closed.toList\/gate∈fs0):=by
  have t:=zB4 (zAL (E:=zKM many ps closed gate (.own false (.dk kvs)) u4 u5 .no .no) (ga:=zAB 1) (gb:=zAB 2) (x:=.int gate) (y:=zC4 closed) rfl rfl (zUN _ _))
  by_cases hc:gate∈closed.toList
  ·rw[decide_eq_false (λz=>z hc)] at t
   exact⟨[],zAH t rfl,⟨List.nodup_nil,λ_ h=>by simp at h,λ_ h=>by simp at h,λ_ h=>h⟩,.inl hc⟩
  ·rw[decide_eq_true hc] at t
   exact⟨[gate],zAH t rfl,⟨List.nodup_cons.mpr ⟨by simp,List.nodup_nil⟩,λx h=>by rw[List.mem_singleton.mp h];exact .refl hc,λx h=>by rw[List.mem_singleton.mp h];exact⟨h0,h1⟩,λ_ h=>h⟩,.inr (by simp)⟩
 obtain⟨fs,v3,v5,e2,nd,hm⟩:=zQQ R ht (u5:=u5) (.inl rfl) F0 hg
 have hkeys:∀l:List Int,(l.map λx=>((.inl x,.bl true):Key×D)).map (λkv=>zUA kv.1)=l.map D.int:=λl=>by rw[List.map_map];rfl
 refine⟨fs,zDH (zAK (zBN (d:=.dk []) rfl) (zAK e1 (zAK (zBN hfs) (zAK (E1:=zEL many ps closed gate (.own false (.dk kvs)) u4 u5 fs0 fs0) (zBN (E':=zKM many ps closed gate (.own false (.dk kvs)) u4 u5 (.own false (fsD fs0)) .no) (zWR (d:=.lst (fs0.map D.int)) (zCR (zA6 (d:=fsD fs0) rfl) ?_) (zG4 _))) (zAK e2 (zCA (zC7 (d:=.lst (fs.map D.int)) (zCR (zA6 (d:=fsD fs) rfl) ?_) ?_))))))) rfl,nd,hm⟩
 ·exact congrArg (λl=>Out.ok (D.lst l)) (hkeys _)
 ·exact congrArg (λl=>Out.ok (D.lst l)) (hkeys _)
 ·simp only[zD7,zEL,zKM,D.flat,D.nod,zF3];rfl
end
theorem tk{g:G}{E:Ev}{d:D}{k:Nat}{n:Int}(h0:E[0]?=some (.own true d))(B:Bag k d)(hk:k<900000)(hg:g E=.ok (.int n,E))(hn:1<=n)(hn2:n<1073741824) :
  ∃r d',zAQ zAF 0 [g] E=.ok (.int r,E.set 0 (.own true d'))/\0<=r/\r<n/\Bag (k+1) d':=by
 obtain⟨r,d',e,a,b,B'⟩:=zW6 B hk hn hn2
 exact⟨r,d',zMV h0 (zA6 hg) h0 e,a,b,B'⟩
theorem zKE{α β:Type}(f:α->β):∀(l:List α) (i:Nat),(l.map f).eraseIdx i=(l.eraseIdx i).map f
 |[],_=>rfl
 |_::_,0=>rfl
 |a::l,i+1=>by simp[zKE f l i]
theorem zG5{α:Type}:∀{l:List α} {i:Nat} (h:i<l.length),(l[i]::l.eraseIdx i).Perm l
 |a::l,0,_=>.refl _
 |a::l,i+1,h=>by
  have:=zG5 (l:=l) (i:=i) (by simpa using h)
  simp only[List.getElem_cons_succ,List.eraseIdx_cons_succ]
  exact(List.Perm.swap _ _ _).trans (this.cons a)
theorem zXI{d:D}{k:Nat}{xs:List Int}(B:Bag k d)(hx:xs.length<=1000)(hk:k<800000) :
  ∃(ys:List Int) (d':D),zBB [.own true d,.val (.lst (xs.map D.int))]=.ok (false,.lst (ys.map D.int),d')/\ys.Perm xs/\Bag (k+xs.length) d':=by
 obtain⟨E',e,ys,d',rfl,hp,B'⟩:=zJ3 (t:=zBY [2] (gB (g2 neD (zAB 2) (zBM [])))) (g:=zFM (zB3 3 zIQ [(zB3 2 zEQ [(zAQ zAF 0 [(zD8 [2] (gN zE3 [(zAB 2)]))])])]))
  (λn E=>∃(rest found:List Int) (d:D),E=[.own true d,.val (.lst (xs.map D.int)),.own false (.lst (rest.map D.int)),.own false (.lst (found.map D.int))]/\(found++rest).Perm xs/\Bag (k+found.length) d/\n=rest.length)
  (λE=>∃(found:List Int) (d:D),E=[.own true d,.val (.lst (xs.map D.int)),.own false (.lst []),.own false (.lst (found.map D.int))]/\found.Perm xs/\Bag (k+xs.length) d)
  (λn E hP=>by
   obtain⟨rest,found,d,hE,hp,B,hn⟩:=hP
   subst hE
   have hlen:=hp.length_eq
   rw[List.length_append] at hlen
   have tw:zBY [2] (gB (g2 neD (zAB 2) (zBM []))) [.own true d,.val (.lst (xs.map D.int)),.own false (.lst (rest.map D.int)),.own false (.lst (found.map D.int))]=.ok (!(rest.map D.int).isEmpty,[.own true d,.val (.lst (xs.map D.int)),.own false (.lst (rest.map D.int)),.own false (.lst (found.map D.int))]) :=
    zBD (zB4 (zAL (x:=.lst (rest.map D.int)) (y:=.lst []) rfl rfl (zLM (Pls.ints 0 rest))))
   by_cases hr:rest=[]
   ·subst hr
    rw[List.append_nil] at hp
    exact .inl ⟨_,tw,found,d,rfl,hp,by rw[<-hp.length_eq];exact B⟩
   ·have hpos:0<rest.length:=List.length_pos_iff.mpr hr
    have hg:zD8 [2] (gN zE3 [(zAB 2)]) [.own true d,.val (.lst (xs.map D.int)),.own false (.lst (rest.map D.int)),.own false (.lst (found.map D.int))]=.ok (.int (rest.length:Int),[.own true d,.val (.lst (xs.map D.int)),.own false (.lst (rest.map D.int)),.own false (.lst (found.map D.int))]) :=
     zC7 (zCR (zA6 (d:=.lst (rest.map D.int)) rfl) (zWT (List.length_map _))) rfl
    obtain⟨r,d',et,r0,r1,B'⟩:=tk (g:=zD8 [2] (gN zE3 [(zAB 2)])) (E:=[.own true d,.val (.lst (xs.map D.int)),.own false (.lst (rest.map D.int)),.own false (.lst (found.map D.int))]) rfl B (by lia) hg (by lia) (by lia)
    have hrl:r.toNat<rest.length:=by lia
    have hpop:zB3 2 zEQ [(zAQ zAF 0 [(zD8 [2] (gN zE3 [(zAB 2)]))])] [.own true d,.val (.lst (xs.map D.int)),.own false (.lst (rest.map D.int)),.own false (.lst (found.map D.int))]=.ok (.int rest[r.toNat],[.own true d',.val (.lst (xs.map D.int)),.own false (.lst ((rest.eraseIdx r.toNat).map D.int)),.own false (.lst (found.map D.int))]) :=
     zEK (i:=2) (f:=zEQ) (t:=false) (xs:=rest.map D.int) (ds:=[.int r]) (x:=.int rest[r.toNat]) (ds':=(rest.eraseIdx r.toNat).map D.int) rfl (zA6 et) rfl (by
      simp only[zEQ,List.length_map,L2.guard]
      rw[if_pos ⟨r0,by lia,by lia⟩,List.getElem?_map,List.getElem?_eq_getElem hrl]
      simp[zKE])
    refine .inr ⟨_,_,(rest.eraseIdx r.toNat).length,?_,zIC (zEK (i:=3) (f:=zIQ) (t:=false) (xs:=found.map D.int) (ds:=[.int rest[r.toNat]]) (x:=.non) (ds':=(found++[rest[r.toNat]]).map D.int) rfl (zA6 hpop) rfl (by
      simp only[zIQ,List.length_map]
      rw[zEJ (by lia)];simp)),?_,rest.eraseIdx r.toNat,found++[rest[r.toNat]],d',rfl,?_,?_,rfl⟩
    ·rw[tw]
     cases rest with
     |nil=>exact absurd rfl hr
     |cons a l=>rfl
    ·rw[List.length_eraseIdx_of_lt hrl];lia
    ·rw[List.append_assoc]
     exact((zG5 hrl).append_left found).trans hp
    ·rw[List.length_append,List.length_singleton,<-Nat.add_assoc];exact B') 100000 xs.length [.own true d,.val (.lst (xs.map D.int)),.own false (.lst (xs.map D.int)),.own false (.lst [])] (by lia)
  ⟨xs,[],d,rfl,List.Perm.refl _,B,rfl⟩
 exact⟨ys,d',zDH (zAK (zBN (d:=.lst (xs.map D.int)) rfl) (zAK (zBN (d:=.lst []) rfl) (zAK e (zCA (d:=.lst (ys.map D.int)) rfl)))) rfl,hp,B'⟩
noncomputable def zIM(d:D)(most:Int)(u2 u3 u4 u5 u6 u7 u8 u9 u10 u11:Sl):Ev:=[.own true d,.val (.int most),u2,u3,u4,u5,u6,u7,u8,u9,u10,u11]
theorem zXJ{xs:List Int}{ds:List D}{x:D}{i:Int}(h0:0<=i)(h:ds[i.toNat]?=some x):ixD (.lst ds) (.int i)=.ok x:=by
 exact zZ8 (zJ4 h0 h)
theorem yD7{d:D}{k:Nat}{most:Int}(B:Bag k d)(hk:k<800000)(h1:1<=most)(h2:most<=24) :
  ∃many d',zCD (.nm 2) (g2 ixD (zBM [(zAB 1),(g2 zC1 (gC (.int 1)) (zAQ zAF 0 [(zAB 1)])),(g2 zC1 (gC (.int 1)) (zAQ zAF 0 [(gN zH5 [(gC (.int 7)),(zAB 1)])]))]) (zAQ zAF 0 [(gC (.int 3))]))
   (zIM d most .no .no .no .no .no .no .no .no .no .no)=.ok (.nx (zIM d' most (.val (.int many)) .no .no .no .no .no .no .no .no .no))/\1<=many/\many<=most/\Bag (k+3) d':=by
 obtain⟨a,d1,e1,a0,a1,B1⟩:=tk (g:=zAB 1) (E:=zIM d most .no .no .no .no .no .no .no .no .no .no) rfl B (by lia) rfl h1 (by lia)
 obtain⟨b,d2,e2,b0,b1,B2⟩:=tk (g:=gN zH5 [(gC (.int 7)),(zAB 1)]) (E:=zIM d1 most .no .no .no .no .no .no .no .no .no .no) (n:=if most<7 then most else 7) rfl B1 (by lia) rfl (by split<;>lia) (by split<;>lia)
 obtain⟨c,d3,e3,c0,c1,B3⟩:=tk (g:=gC (.int 3)) (E:=zIM d2 most .no .no .no .no .no .no .no .no .no .no) rfl B2 (by lia) rfl (by lia) (by lia)
 have hb:b<most:=by split at b1<;>lia
 have key:∃many:Int,([D.int most,.int (1+a),.int (1+b)])[c.toNat]?=some (.int many)/\1<=many/\many<=most:=by
  have:c=0\/c=1\/c=2:=by lia
  rcases this with rfl|rfl|rfl
  ·exact⟨most,rfl,h1,Int.le_refl _⟩
  ·exact⟨1+a,rfl,by lia,by lia⟩
  ·exact⟨1+b,rfl,by lia,by lia⟩
 obtain⟨many,hm,m0,m1⟩:=key
 refine⟨many,d3,zBC (zAL (zER (zAR (d:=.int most) rfl (zAR (zAL (x:=.int 1) rfl e1 (d:=.int (1+a)) rfl) (zA6 (zAL (x:=.int 1) rfl e2 (d:=.int (1+b)) rfl)))) (show 3<10000 by decide)) e3 (zXJ (xs:=[]) c0 hm)) rfl,m0,m1,B3⟩
theorem yD8{d:D}{k:Nat}{most many kind:Int}(B:Bag k d)(hk:k<800000)(h1:1<=many)(h2:many<=24) :
  ∃wanted d',zCD (.nm 4) (g2 ixD (zBM [(gC (.int 0)),(gC (.int 1)),(zAQ zAF 0 [(g2 zC1 (zAB 2) (gC (.int 1)))]),(g2 zC1 (zAB 2) (zAQ zAF 0 [(g2 zLC (gC (.int 5)) (zAB 2))])),(gC (.int 120))]) (zAQ zAF 0 [(gC (.int 5))]))
   (zIM d most (.val (.int many)) (.val (.int kind)) .no .no .no .no .no .no .no .no)=.ok (.nx (zIM d' most (.val (.int many)) (.val (.int kind)) (.val (.int wanted)) .no .no .no .no .no .no .no))/\0<=wanted/\wanted<=200/\Bag (k+3) d':=by
 obtain⟨a,d1,e1,a0,a1,B1⟩:=tk (g:=g2 zC1 (zAB 2) (gC (.int 1))) (E:=zIM d most (.val (.int many)) (.val (.int kind)) .no .no .no .no .no .no .no .no) rfl B (by lia) rfl (by lia) (by lia)
 have hmul:zLC (.int 5) (.int many)=.ok (.int (5 * many)):=by
  simp only[zLC,L2.guard];rw[if_pos (.inl ⟨by decide,by decide⟩)]
 obtain⟨b,d2,e2,b0,b1,B2⟩:=tk (g:=g2 zLC (gC (.int 5)) (zAB 2)) (E:=zIM d1 most (.val (.int many)) (.val (.int kind)) .no .no .no .no .no .no .no .no) rfl B1 (by lia) (zAL (x:=.int 5) (y:=.int many) rfl rfl hmul) (by lia) (by lia)
 obtain⟨c,d3,e3,c0,c1,B3⟩:=tk (g:=gC (.int 5)) (E:=zIM d2 most (.val (.int many)) (.val (.int kind)) .no .no .no .no .no .no .no .no) rfl B2 (by lia) rfl (by lia) (by lia)
 have key:∃w:Int,([D.int 0,.int 1,.int a,.int (many+b),.int 120])[c.toNat]?=some (.int w)/\0<=w/\w<=200:=by
  have:c=0\/c=1\/c=2\/c=3\/c=4:=by lia
  rcases this with rfl|rfl|rfl|rfl|rfl
  ·exact⟨0,rfl,by decide,by decide⟩
  ·exact⟨1,rfl,by decide,by decide⟩
  ·exact⟨a,rfl,by lia,by lia⟩
  ·exact⟨many+b,rfl,by lia,by lia⟩
  ·exact⟨120,rfl,by decide,by decide⟩
 obtain⟨w,hw,w0,w1⟩:=key
 exact⟨w,d3,zBC (zAL (zER (zAR (d:=.int 0) rfl (zAR (d:=.int 1) rfl (zAR e1 (zAR (zAL (x:=.int many) rfl e2 (d:=.int (many+b)) rfl) (zA6 (d:=.int 120) rfl))))) (show 5<10000 by decide)) e3 (zXJ (xs:=[]) c0 hw)) rfl,w0,w1,B3⟩
structure Ln(many:Int)(kvs:List (List Int×D)):Prop where
 nd:(kvs.map (·.1)).Nodup
 rg:∀k∈kvs.map (·.1),∃a b:Int,k=[a,b]/\0<=a/\a<many/\0<=b/\b<many/\a≠b
theorem zKF(kvs:List (List Int×D))(k:List Int)(v:D):(zEE kvs k v).map (·.1)=if k∈kvs.map (·.1) then kvs.map (·.1) else kvs.map (·.1)++[k]:=by
 unfold zEE
 by_cases h:k∈kvs.map (·.1)
 ·rw[if_pos h,if_pos]
  ·rw[List.map_map]
   refine List.map_congr_left λkv _=>?_
   simp only[Function.comp]
   split<;>rfl
  ·obtain⟨kv,hkv,e⟩:=List.mem_map.mp h
   exact List.any_eq_true.mpr ⟨kv,hkv,decide_eq_true e⟩
 ·rw[if_neg h,if_neg]
  ·simp
  ·intro z
   obtain⟨kv,hkv,e⟩:=List.any_eq_true.mp z
   exact h (List.mem_map.mpr ⟨kv,hkv,of_decide_eq_true e⟩)
theorem Ln.put{many:Int}{kvs:List (List Int×D)}(L:Ln many kvs){a b:Int}(h:0<=a/\a<many/\0<=b/\b<many/\a≠b)(v:D):Ln many (zEE kvs [a,b] v):=by
 constructor
 ·rw[zKF]
  split
  ·exact L.nd
  ·rename_i hn
   rw[List.nodup_append]
   exact⟨L.nd,List.nodup_cons.mpr ⟨by simp,List.nodup_nil⟩,λp hp q hq=>by rw[List.mem_singleton.mp hq];exact λz=>hn (z▸hp)⟩
 ·rw[zKF]
  split
  ·exact L.rg
  ·intro k hk
   rcases List.mem_append.mp hk with h'|h'
   ·exact L.rg k h'
   ·exact⟨a,b,List.mem_singleton.mp h',h⟩
theorem zUO{kvs:List (List Int×D)}{a b:Int}(h:kvs.length<10000):zWG (.dt kvs) (.tup [.int a,.int b]) (.bl true)=.ok (.dt (zEE kvs [a,b] (.bl true))):=by
 exact zEJ h
noncomputable abbrev l1B:GS:=zE7 (gB (g2 ltD (zAB 3) (gC (.int 3))))
 (zAO 5 (zDP [(g2 ixD (zBM [(zAQ zAF 0 [(zAB 6)]),(g2 zQ5 (g2 zQ5 (zAB 6) (gC (.int 1))) (zAQ zAF 0 [(gN zH5 [(zAB 6),(gC (.int 2))])])),(gC (.int 0))]) (zAB 3)),(zAB 6)]) (gC (.bl true)))
 gNx
section
variable{most many kind wanted:Int}
noncomputable abbrev ne1(d:D)(most many kind wanted:Int)(kvs:List (List Int×D))(u6 u7 u8 u9:Sl):Ev:=zIM d most (.val (.int many)) (.val (.int kind)) (.val (.int wanted)) (.own false (.dt kvs)) u6 u7 u8 u9 .no .no
theorem yCC{d:D}{k:Nat}(B:Bag k d)(hk:k<800000)(h1:1<=many)(h2:many<=24)(hk0:0<=kind) :
  ∃(d':D) (kvs:List (List Int×D)) (u6:Sl),zED (zP6 (gC (.int 1)) (zAB 2)) (.nm 6) l1B (ne1 d most many kind wanted [] .no .no .no .no)=.ok (.nx (ne1 d' most many kind wanted kvs u6 .no .no .no))/\Bag (k+48) d'/\Ln many kvs/\kvs.length<=24:=by
 obtain⟨E',e,d',kvs,u6,rfl,B',L,hl⟩:=zCM (gi:=zP6 (gC (.int 1)) (zAB 2)) (t:=.nm 6) (g:=l1B) (E:=ne1 d most many kind wanted [] .no .no .no .no)
  (λi E=>∃(d':D) (kvs:List (List Int×D)) (u6:Sl),E=ne1 d' most many kind wanted kvs u6 .no .no .no/\Bag (k+2 * i) d'/\Ln many kvs/\kvs.length<=i) (zWS (i:=1) (j:=many) rfl rfl ⟨⟨by decide,by decide⟩,by lia,by lia⟩) ⟨d,[],.no,rfl,B,⟨List.nodup_nil,λ_ h=>by simp at h⟩,Nat.le_refl _⟩
  (λi x E hx hP=>by
   obtain⟨d,kvs,u6,hE,B,L,hl⟩:=hP
   subst hE
   have hi:=(List.getElem?_eq_some_iff.mp hx).1
   simp only[zGX,List.length_map,List.length_range] at hi
   simp only[zGX] at hx
   rw[List.getElem?_map,List.getElem?_range hi] at hx
   obtain rfl:=Option.some.inj hx
   obtain⟨p,hp⟩:∃p:Int,p=1+(i:Int):=⟨_,rfl⟩
   show ∃E1,gTg (Tg.nm 6) (.int (1+(i:Int))) (ne1 d most many kind wanted kvs u6 Sl.no Sl.no Sl.no)=Out.ok E1/\_
   rw[<-hp]
   refine⟨_,rfl,?_⟩
   by_cases hk3:kind<3
   ·obtain⟨a,d1,e1,a0,a1,B1⟩:=tk (g:=zAB 6) (E:=ne1 d most many kind wanted kvs (.val (.int p)) .no .no .no) (n:=p) rfl B (by lia) rfl (by lia) (by lia)
    obtain⟨b,d2,e2,b0,b1,B2⟩:=tk (g:=gN zH5 [(zAB 6),(gC (.int 2))]) (E:=ne1 d1 most many kind wanted kvs (.val (.int p)) .no .no .no) (n:=if 2<p then 2 else p) rfl B1 (by lia) rfl (by split<;>lia) (by split<;>lia)
    have key:∃v:Int,([D.int a,.int (p-1-b),.int 0])[kind.toNat]?=some (.int v)/\0<=v/\v<p:=by
     have:kind=0\/kind=1\/kind=2:=by lia
     rcases this with h|h|h
     ·exact⟨a,by rw[h];rfl,a0,a1⟩
     ·exact⟨p-1-b,by rw[h];rfl,by split at b1<;>lia,by lia⟩
     ·exact⟨0,by rw[h];rfl,by lia,by lia⟩
    obtain⟨v,hv,v0,v1⟩:=key
    refine⟨_,zS2 (zB4 (zAL (x:=.int kind) (y:=.int 3) rfl rfl (d:=.bl true) (by simp only[ltD];rw[decide_eq_true hk3]))) (zAZ (i:=5) (E1:=ne1 d most many kind wanted kvs (.val (.int p)) .no .no .no) (E2:=ne1 d2 most many kind wanted kvs (.val (.int p)) .no .no .no) (t:=false) (d:=.dt kvs) (v:=.bl true) rfl rfl (zMT (zAR (zAL (zER (zAR e1 (zAR (zAL (x:=.int (p-1)) rfl e2 (d:=.int (p-1-b)) rfl) (zA6 (d:=.int 0) rfl))) (show 3<10000 by decide)) (y:=.int kind) rfl (zXJ (xs:=[]) hk0 hv)) (zA6 (d:=.int p) rfl)) (show 2<10000 by decide)) rfl (zUO (by lia))),d2,_,_,rfl,B2.mono (by lia),L.put ⟨v0,by lia,by lia,by lia,by lia⟩ _,Nat.le_trans (zIB _ _ _) (by lia)⟩
   ·exact⟨_,zLL (zB4 (zAL (x:=.int kind) (y:=.int 3) rfl rfl (d:=.bl false) (by simp only[ltD];rw[decide_eq_false hk3]))) rfl,d,kvs,_,rfl,B.mono (by lia),L,by lia⟩)
 simp only[zGX,List.length_map,List.length_range] at B' hl
 exact⟨d',kvs,u6,e,B'.mono (by lia),L,by lia⟩
noncomputable abbrev l2B:GS:=(zA2 (zCD (.nm 8) (zAQ zAF 0 [(zAB 2)]))
 (zA2 (zCD (.nm 9) (g2 ixD (zBM [(zAQ zAF 0 [(zAB 2)]),(g2 zGW (g2 zC1 (g2 zC1 (zAB 8) (gC (.int 1))) (zAQ zAF 0 [(gC (.int 2))])) (zAB 2))]) (zAQ zAF 0 [(gC (.int 2))])))
 (zE7 (zBY [5] (zEZ (gB (g2 neD (zAB 8) (zAB 9))) (gB (g2 ltD (gN zE3 [(zAB 5)]) (gC (.int 120))))))
 (zAO 5 (zDP [(zAB 8),(zAB 9)]) (gC (.bl true)))
 gNx)))
theorem yCD{d:D}{k:Nat}{u6:Sl}{kvs:List (List Int×D)}(B:Bag k d)(hk:k<800000)(h1:1<=many)(h2:many<=24)(hw0:0<=wanted)(hw1:wanted<=200)(L:Ln many kvs)(hl:kvs.length<=120) :
  ∃(d':D) (kvs':List (List Int×D)) (u7 u8 u9:Sl),zED (zLI (zAB 4)) (.nm 7) l2B (ne1 d most many kind wanted kvs u6 .no .no .no)=.ok (.nx (ne1 d' most many kind wanted kvs' u6 u7 u8 u9))/\Bag (k+800) d'/\Ln many kvs'/\kvs'.length<=120:=by
 obtain⟨E',e,d',kvs',u7,u8,u9,rfl,B',L',hl'⟩:=zCM (gi:=zLI (zAB 4)) (t:=.nm 7) (g:=l2B) (E:=ne1 d most many kind wanted kvs u6 .no .no .no)
  (λi E=>∃(d':D) (kvs:List (List Int×D)) (u7 u8 u9:Sl),E=ne1 d' most many kind wanted kvs u6 u7 u8 u9/\Bag (k+4 * i) d'/\Ln many kvs/\kvs.length<=120) (zQM (j:=wanted) rfl ⟨by lia,by lia⟩) ⟨d,kvs,.no,.no,.no,rfl,B,L,hl⟩
  (λi x E hx hP=>by
   obtain⟨d,kvs,u7,u8,u9,hE,B,L,hl⟩:=hP
   subst hE
   have hi:=(List.getElem?_eq_some_iff.mp hx).1
   simp only[zGX,List.length_map,List.length_range] at hi
   obtain⟨a,d1,e1,a0,a1,B1⟩:=tk (g:=zAB 2) (E:=ne1 d most many kind wanted kvs u6 (.val x) u8 u9) (n:=many) rfl B (by lia) rfl (by lia) (by lia)
   obtain⟨b,d2,e2,b0,b1,B2⟩:=tk (g:=zAB 2) (E:=ne1 d1 most many kind wanted kvs u6 (.val x) (.val (.int a)) u9) (n:=many) rfl B1 (by lia) rfl (by lia) (by lia)
   obtain⟨c,d3,e3,c0,c1,B3⟩:=tk (g:=gC (.int 2)) (E:=ne1 d2 most many kind wanted kvs u6 (.val x) (.val (.int a)) u9) (n:=2) rfl B2 (by lia) rfl (by lia) (by lia)
   obtain⟨f,d4,e4,f0,f1,B4⟩:=tk (g:=gC (.int 2)) (E:=ne1 d3 most many kind wanted kvs u6 (.val x) (.val (.int a)) u9) (n:=2) rfl B3 (by lia) rfl (by lia) (by lia)
   have m0:0<=(a+1+c) % many:=Int.emod_nonneg _ (by lia)
   have m1:(a+1+c) % many<many:=Int.emod_lt_of_pos _ (by lia)
   have hmod:zGW (.int (a+1+c)) (.int many)=.ok (.int ((a+1+c) % many)):=by
    simp only[zGW,L2.guard];rw[if_pos (by lia)]
   have key:∃v:Int,([D.int b,.int ((a+1+c) % many)])[f.toNat]?=some (.int v)/\0<=v/\v<many:=by
    have:f=0\/f=1:=by lia
    rcases this with h|h
    ·exact⟨b,by rw[h];rfl,b0,b1⟩
    ·exact⟨(a+1+c) % many,by rw[h];rfl,m0,m1⟩
   obtain⟨v,hv,v0,v1⟩:=key
   refine⟨_,rfl,?_⟩
   have s1:zCD (.nm 8) (zAQ zAF 0 [(zAB 2)]) (ne1 d most many kind wanted kvs u6 (.val x) u8 u9)=.ok (.nx (ne1 d1 most many kind wanted kvs u6 (.val x) (.val (.int a)) u9)):=zBC e1 rfl
   have s2:zCD (.nm 9) (g2 ixD (zBM [(zAQ zAF 0 [(zAB 2)]),(g2 zGW (g2 zC1 (g2 zC1 (zAB 8) (gC (.int 1))) (zAQ zAF 0 [(gC (.int 2))])) (zAB 2))]) (zAQ zAF 0 [(gC (.int 2))])) (ne1 d1 most many kind wanted kvs u6 (.val x) (.val (.int a)) u9)=.ok (.nx (ne1 d4 most many kind wanted kvs u6 (.val x) (.val (.int a)) (.val (.int v)))) :=
    zBC (zAL (zER (zAR e2 (zA6 (zAL (zAL (x:=.int (a+1)) rfl e3 (d:=.int (a+1+c)) rfl) (y:=.int many) rfl hmod))) (show 2<10000 by decide)) e4 (zXJ (xs:=[]) f0 hv)) rfl
   have t1:gB (g2 neD (zAB 8) (zAB 9)) (zDO [5] (ne1 d4 most many kind wanted kvs u6 (.val x) (.val (.int a)) (.val (.int v))))=.ok (decide (a≠v),zDO [5] (ne1 d4 most many kind wanted kvs u6 (.val x) (.val (.int a)) (.val (.int v)))) :=
    zB4 (zAL (x:=.int a) (y:=.int v) rfl rfl (zH8 _ _))
   have t2:gB (g2 ltD (gN zE3 [(zAB 5)]) (gC (.int 120))) (zDO [5] (ne1 d4 most many kind wanted kvs u6 (.val x) (.val (.int a)) (.val (.int v))))=.ok (decide ((kvs.length:Int)<120),zDO [5] (ne1 d4 most many kind wanted kvs u6 (.val x) (.val (.int a)) (.val (.int v)))) :=
    zB4 (zAL (x:=.int kvs.length) (zCR (zA6 (d:=.dt kvs) rfl) rfl) (y:=.int 120) rfl rfl)
   by_cases hav:a=v
   ·rw[decide_eq_false (λz=>z hav)] at t1
    exact⟨_,zAK s1 (zAK s2 (zLL (zBD (zMU t1)) rfl)),d4,kvs,_,_,_,rfl,B4.mono (by lia),L,hl⟩
   rw[decide_eq_true hav] at t1
   by_cases hfull:(kvs.length:Int)<120
   ·rw[decide_eq_true hfull] at t2
    exact⟨_,zAK s1 (zAK s2 (zS2 (zBD (zFV t1 t2)) (zAZ (i:=5) (E1:=ne1 d4 most many kind wanted kvs u6 (.val x) (.val (.int a)) (.val (.int v))) (E2:=ne1 d4 most many kind wanted kvs u6 (.val x) (.val (.int a)) (.val (.int v))) (t:=false) (d:=.dt kvs) (v:=.bl true) (k:=.tup [.int a,.int v]) rfl rfl rfl rfl (zUO (by lia))))),d4,_,_,_,_,rfl,B4.mono (by lia),L.put ⟨a0,a1,v0,v1,hav⟩ _,Nat.le_trans (zIB _ _ _) (by lia)⟩
   ·rw[decide_eq_false hfull] at t2
    exact⟨_,zAK s1 (zAK s2 (zLL (zBD (zFV t1 t2)) rfl)),d4,kvs,_,_,_,rfl,B4.mono (by lia),L,hl⟩)
 simp only[zGX,List.length_map,List.length_range] at B'
 exact⟨d',kvs',u7,u8,u9,e,B'.mono (by lia),L',hl'⟩
end
noncomputable def ri(n:Nat):List Int:=(List.range n).map λ(j:Nat)=>(0:Int)+(j:Int)
theorem yAI(n:Nat):zGX 0 n=(ri n).map D.int:=by simp[zGX,ri]
theorem mem_ri{n:Nat}{x:Int}:x∈ri n↔0<=x/\x<n:=by
 unfold ri
 constructor
 ·intro h
  obtain⟨j,hj,rfl⟩:=List.mem_map.mp h
  have:=List.mem_range.mp hj
  lia
 ·rintro⟨a,b⟩
  exact List.mem_map.mpr ⟨x.toNat,List.mem_range.mpr (by lia),by lia⟩
theorem yCE(n:Nat):(ri n).Nodup:=List.Pairwise.map _ (λa b h z=>h (by lia)) List.nodup_range
theorem zEV(n:Nat):(ri n).length=n:=by simp[ri]
noncomputable def nmI(ys:List Int)(a:Int):Int:=ys.getD a.toNat 0
noncomputable def pk(ys:List Int)(k:List Int):Int×Int:=match k with
 |[a,b]=>(nmI ys a,nmI ys b)
 |_=>(0,0)
theorem zTM{ys:List Int}{a:Int}(h0:0<=a)(h:a.toNat<ys.length):ixD (.lst (ys.map D.int)) (.int a)=.ok (.int (nmI ys a)):=by
 refine zXJ (xs:=[]) h0 ?_
 rw[List.getElem?_map,List.getElem?_eq_getElem h]
 simp[nmI,h]
theorem zQR{ys:List Int}{a:Int}(h:a.toNat<ys.length):nmI ys a∈ys:=by
 have:nmI ys a=ys[a.toNat]:=by simp[nmI,h]
 rw[this];exact List.getElem_mem h
theorem zQS{ys:List Int}(hn:ys.Nodup){a b:Int}(a0:0<=a)(b0:0<=b)(ha:a.toNat<ys.length)(hb:b.toNat<ys.length)(e:nmI ys a=nmI ys b):a=b:=by
 have e1:nmI ys a=ys[a.toNat]:=by simp[nmI,ha]
 have e2:nmI ys b=ys[b.toNat]:=by simp[nmI,hb]
 rw[e1,e2] at e
 rcases Nat.lt_trichotomy a.toNat b.toNat with h|h|h
 ·exact absurd e (List.pairwise_iff_getElem.mp hn _ _ ha hb h)
 ·lia
 ·exact absurd e.symm (List.pairwise_iff_getElem.mp hn _ _ hb ha h)
theorem zG6:∀ps:List (Int×Int),D.nods (ps.map zDF)=true
 |[]=>by simp[D.nods]
 |p::ps=>by simp[D.nods,D.nod,zDF,zG6 ps]
section
variable{most many kind wanted:Int}
noncomputable def zQT(ys:List Int)(d:D):List D:=match d with
 |.tup [.int a,.int b]=>[zDF (nmI ys a,nmI ys b)]
 |_=>[]
theorem zM1{ys:List Int}:∀{ks:List (List Int)},(∀k∈ks,∃a b:Int,k=[a,b]/\0<=a/\a<many/\0<=b/\b<many/\a≠b)->(ks.map zZZ).flatMap (zQT ys)=(ks.map (pk ys)).map zDF
 |[],_=>rfl
 |k::ks,h=>by
  obtain⟨a,b,rfl,_⟩:=h k List.mem_cons_self
  simp only[List.map_cons,List.flatMap_cons,zM1 λk hk=>h k (List.mem_cons_of_mem _ hk)]
  rfl
theorem zDS{x many:Int}{n:Nat}(h:n=many.toNat)(h0:0<=x)(h1:x<many):x.toNat<n:=by lia
theorem zXK{d:D}{k:Nat}(B:Bag k d)(hk:k<700000)(h1:1<=most)(h2:most<=24) :
  ∃(many:Int) (ps:List (Int×Int)) (gate:Int) (d':D),zB8 [.own true d,.val (.int most)]=.ok (false,.tup [zB5 many ps,.int gate],d')/\Net many ps/\many<=most/\0<=gate/\gate<many/\Bag (k+1000) d':=by
 obtain⟨many,d1,e1,m1,m2,B1⟩:=yD7 B (by lia) h1 h2
 obtain⟨kind,d2,e2,k0,k1,B2⟩:=tk (g:=gC (.int 4)) (E:=zIM d1 most (.val (.int many)) .no .no .no .no .no .no .no .no .no) rfl B1 (by lia) rfl (by lia) (by lia)
 obtain⟨wanted,d3,e3,w0,w1,B3⟩:=yD8 (most:=most) (many:=many) (kind:=kind) B2 (by lia) m1 (by lia)
 obtain⟨d4,kvs,u6,e4,B4,L4,l4⟩:=yCC (most:=most) (many:=many) (kind:=kind) (wanted:=wanted) B3 (by lia) m1 (by lia) k0
 obtain⟨d5,kvs,u7,u8,u9,e5,B5,L5,l5⟩:=yCD (most:=most) (many:=many) (kind:=kind) (wanted:=wanted) (u6:=u6) B4 (by lia) m1 (by lia) w0 w1 L4 (by lia)
 obtain⟨ys,d6,e6,hp,B6⟩:=zXI (xs:=ri many.toNat) B5 (by rw[zEV];lia) (by lia)
 have hyl:ys.length=many.toNat:=by rw[hp.length_eq,zEV]
 have hyn:ys.Nodup:=hp.nodup_iff.mpr (yCE _)
 have hym:∀x,x∈ys->0<=x/\x<many:=λx hx=>by have:=mem_ri.mp (hp.mem_iff.mp hx);lia
 rw[zEV] at B6
 have s6:zCD (.nm 10) (zAQ zBB 0 [(gLR (zAB 2))]) (ne1 d5 most many kind wanted kvs u6 u7 u8 u9)=.ok (.nx (zIM d6 most (.val (.int many)) (.val (.int kind)) (.val (.int wanted)) (.own false (.dt kvs)) u6 u7 u8 u9 (.val (.lst (ys.map D.int))) .no)):=by
  refine zBC (zMV (ds:=[.lst ((ri many.toNat).map D.int)]) (E1:=ne1 d5 most many kind wanted kvs u6 u7 u8 u9) (t:=true) (d:=d5) rfl (zA6 (zAH (a:=(.int many,ne1 d5 most many kind wanted kvs u6 u7 u8 u9)) rfl ?_)) rfl e6) rfl
  simp only[L2.guard]
  rw[if_pos ⟨by lia,by lia⟩,yAI]
 obtain⟨a,d7,e7,a0,a1,B7⟩:=tk (g:=zAB 2) (E:=zIM d6 most (.val (.int many)) (.val (.int kind)) (.val (.int wanted)) (.own false (.dt kvs)) u6 u7 u8 u9 (.val (.lst (ys.map D.int))) .no) (n:=many) rfl B6 (by lia) rfl (by lia) (by lia)
 obtain⟨c,d8,e8,c0,c1,B8⟩:=tk (g:=gC (.int 3)) (E:=zIM d7 most (.val (.int many)) (.val (.int kind)) (.val (.int wanted)) (.own false (.dt kvs)) u6 u7 u8 u9 (.val (.lst (ys.map D.int))) .no) (n:=3) rfl B7 (by lia) rfl (by lia) (by lia)
 have hz:(0:Int).toNat<ys.length:=by rw[hyl];lia
 have hz2:=hym _ (zQR (ys:=ys) (a:=0) hz)
 have key:∃g:Int,([D.int (nmI ys 0),.int (nmI ys 0),.int a])[c.toNat]?=some (.int g)/\0<=g/\g<many:=by
  have:c=0\/c=1\/c=2:=by lia
  rcases this with h|h|h
  ·exact⟨_,by rw[h];rfl,hz2.1,hz2.2⟩
  ·exact⟨_,by rw[h];rfl,hz2.1,hz2.2⟩
  ·exact⟨a,by rw[h];rfl,a0,a1⟩
 obtain⟨gate,hg,g0,g1⟩:=key
 obtain⟨E9,hE9⟩:∃E9,E9=zIM d8 most (.val (.int many)) (.val (.int kind)) (.val (.int wanted)) (.own false (.dt kvs)) u6 u7 u8 u9 (.val (.lst (ys.map D.int))) (.val (.int gate)):=⟨_,rfl⟩
 have s7:zCD (.nm 11) (g2 ixD (zBM [(g2 ixD (zAB 10) (gC (.int 0))),(g2 ixD (zAB 10) (gC (.int 0))),(zAQ zAF 0 [(zAB 2)])]) (zAQ zAF 0 [(gC (.int 3))])) (zIM d6 most (.val (.int many)) (.val (.int kind)) (.val (.int wanted)) (.own false (.dt kvs)) u6 u7 u8 u9 (.val (.lst (ys.map D.int))) .no)=.ok (.nx E9):=by
  rw[hE9]
  exact zBC (zAL (zER (zAR (zAL (x:=.lst (ys.map D.int)) (y:=.int 0) rfl rfl (zTM (by decide) hz)) (zAR (zAL (x:=.lst (ys.map D.int)) (y:=.int 0) rfl rfl (zTM (by decide) hz)) (zA6 e7))) (show 3<10000 by decide)) e8 (zXJ (xs:=[]) c0 hg)) rfl
 obtain⟨qs,hqs⟩:∃qs,qs=(kvs.map (·.1)).map (pk ys):=⟨_,rfl⟩
 have hcomp:zDW (zAX (zAB 5)) 2 [10] (.tp [(.nm 0),(.nm 1)]) zQ4 (zDP [(g2 ixD (zAB 2) (zAB 0)),(g2 ixD (zAB 2) (zAB 1))]) (zDO [5] E9)=.ok (.lst (qs.map zDF),zDO [5] E9):=by
  have:=zFU (gi:=zAX (zAB 5)) (k:=2) (js:=[10]) (t:=.tp [(.nm 0),(.nm 1)]) (tt:=zQ4) (ge:=zDP [(g2 ixD (zAB 2) (zAB 0)),(g2 ixD (zAB 2) (zAB 1))]) (E:=zDO [5] E9) (E1:=zDO [5] E9) (ds:=(kvs.map (·.1)).map zZZ) (zQT ys) (λE=>∃x y,E=[x,y,.val (.lst (ys.map D.int))]) (by rw[List.map_map,hE9];rfl) (by rw[hE9];exact⟨_,_,rfl⟩) (by rw[List.length_map,List.length_map];lia) (λx hx E hE=>by
   obtain⟨ky,hky,rfl⟩:=List.mem_map.mp hx
   obtain⟨p,q,rfl⟩:=hE
   obtain⟨a,b,rfl,a0,a1,b0,b1,_⟩:=L5.rg ky hky
   exact⟨_,rfl,true,_,rfl,.inl ⟨rfl,_,_,zMT (zAR (zAL (x:=.lst (ys.map D.int)) (y:=.int a) rfl rfl (zTM a0 (zDS hyl a0 a1))) (zA6 (zAL (x:=.lst (ys.map D.int)) (y:=.int b) rfl rfl (zTM b0 (zDS hyl b0 b1))))) (show 2<10000 by decide),rfl,_,_,rfl⟩⟩) (λEc hEc=>by
   rw[hE9]
   have:∀(u:Sl) (j:Nat),j≠10->zT5 Ec 2 [10] j (zE0 [5] j u)=zE0 [5] j u:=λu j hj=>by
    cases u with
    |no=>rfl
    |val d=>rfl
    |own t d =>
     simp only[zE0]
     split<;>rfl
   simp only[bck,zDO,zIM,zHU,zPK,Nat.zero_add,Nat.reduceAdd]
   rw[this u6 6 (by decide),this u7 7 (by decide),this u8 8 (by decide),this u9 9 (by decide)]
   rfl)
  rw[this,zM1 L5.rg,hqs]
 have hnet:Net many (zEH qs):=by
  have pm:=zEI qs
  refine⟨m1,by lia,by rw[pm.length_eq,hqs,List.length_map,List.length_map];exact l5,λp hp=>?_,zTG ?_⟩
  ·have hp:=pm.mem_iff.mp hp
   rw[hqs] at hp
   obtain⟨ky,hky,rfl⟩:=List.mem_map.mp hp
   obtain⟨a,b,rfl,a0,a1,b0,b1,ab⟩:=L5.rg ky hky
   have ha:=hym _ (zQR (ys:=ys) (a:=a) (zDS hyl a0 a1))
   have hb:=hym _ (zQR (ys:=ys) (a:=b) (zDS hyl b0 b1))
   exact⟨ha.1,ha.2,hb.1,hb.2,λz=>ab (zQS hyn a0 b0 (zDS hyl a0 a1) (zDS hyl b0 b1) z)⟩
  ·rw[hqs]
   refine List.pairwise_map.mpr (List.Pairwise.imp_of_mem ?_ L5.nd)
   intro x y hx hy hxy z
   obtain⟨a,b,rfl,a0,a1,b0,b1,ab⟩:=L5.rg x hx
   obtain⟨a',b',rfl,a0',a1',b0',b1',ab'⟩:=L5.rg y hy
   simp only[pk,Prod.mk.injEq] at z
   exact hxy (by rw[zQS hyn a0 a0' (zDS hyl a0 a1) (zDS hyl a0' a1') z.1,zQS hyn b0 b0' (zDS hyl b0 b1) (zDS hyl b0' b1') z.2])
 refine⟨many,zEH qs,gate,d8,zDH (E':=E9) (zAK e1 (zAK (zBC e2 rfl) (zAK e3 (zAK (zBN (d:=.dt []) rfl) (zAK e4 (zAK e5 (zAK s6 (zAK s7 (zCA (zC7 (d:=.tup [zB5 many (zEH qs),.int gate]) (zMT (zAR (zMT (zAR (d:=.int many) (by rw[hE9];rfl) (zA6 (zCR (zA6 (zCR (zA6 hcomp) (zLO qs))) rfl))) (show 2<10000 by decide)) (zA6 (d:=.int gate) (by rw[hE9];rfl))) (show 2<10000 by decide)) ?_)))))))))) (by rw[hE9];rfl),hnet,m2,g0,g1,B8.mono (by lia)⟩
 rw[hE9]
 simp only[zD7,zIM,zB5,D.flat,D.flats,D.nod,D.nods,zG6]
 rfl
end
section
variable{ps:List (Int×Int)}{cl:List Int}{g x a b c:Int}
theorem Rc.st(h:Rc ps cl g x):g∉cl:=by
 induction h with
 |refl h=>exact h
 |step _ _ _ ih=>exact ih
theorem Rc.ne(h:Rc ps cl g x):x∉cl:=by
 cases h with
 |refl h=>exact h
 |step _ _ h=>exact h
theorem Rc.mono{dl:List Int}(hs:∀z∈dl,z∈cl)(h:Rc ps cl g x):Rc ps dl g x:=by
 induction h with
 |refl h=>exact .refl λz=>h (hs _ z)
 |step _ e h ih=>exact .step ih e λz=>h (hs _ z)
theorem Rc.range{many:Int}(R:Rg many ps)(h0:0<=g)(h1:g<many)(h:Rc ps cl g x):0<=x/\x<many:=by
 cases h with
 |refl _=>exact⟨h0,h1⟩
 |step _ e _=>obtain⟨_,_,a,b⟩:=R.rg _ e;exact⟨a,b⟩
theorem zRA(h:a≠b):a∉[b]:=λz=>h (List.mem_singleton.mp z)
theorem Rc.by(b:Int)(h:Rc ps cl g x):Rc ps [b] g x\/Rc ps cl g b:=by
 induction h with
 |refl h =>
  by_cases e:g=b
  ·exact .inr (by rw[<-e];exact .refl h)
  ·exact .inl (.refl (zRA e))
 |@step x y h e c ih =>
  rcases ih with ih|ih
  ·by_cases eb:y=b
   ·exact .inr (by rw[<-eb];exact .step h e c)
   ·exact .inl (.step ih e (zRA eb))
  ·exact .inr ih
def Dom(ps:List (Int×Int))(g c x:Int):Prop:=Rc ps [] g x/\¬Rc ps [c] g x
theorem Dom.refl(h:Rc ps [] g x):Dom ps g x x:=⟨h,λz=>z.ne List.mem_cons_self⟩
theorem Dom.gate(h:Rc ps [] g x):Dom ps g g x:=⟨h,λz=>z.st List.mem_cons_self⟩
theorem Dom.rc(h:Dom ps g c x):Rc ps [] g c:=(h.1.by c).resolve_left h.2
theorem Dom.trans(h1:Dom ps g a b)(h2:Dom ps g b c):Dom ps g a c:=⟨h2.1,λz=>(z.by b).elim h2.2 h1.2⟩
theorem Dom.anti(h1:Dom ps g a b)(h2:Dom ps g b a):a=b:=Classical.byContradiction λne=>by
 have key:∀x,Rc ps [] g x->Rc ps [a,b] g x:=λx h=>by
  have two:∀y:Int,y≠a->y≠b->y∉[a,b]:=λy p q z=>by
   simp only[List.mem_cons,List.not_mem_nil,or_false] at z
   exact z.elim p q
  induction h with
  |refl _ =>
   refine .refl (two g (λe=>h2.2 ?_) (λe=>h1.2 ?_))
   ·rw[<-e];exact .refl (zRA (by rw[e];exact ne))
   ·rw[<-e];exact .refl (zRA (by rw[e];exact Ne.symm ne))
  |@step x y _ e _ ih =>
   refine .step ih e (two y (λq=>h2.2 ?_) (λq=>h1.2 ?_))
   ·rw[<-q];exact .step (ih.mono (by simp)) e (zRA (by rw[q];exact ne))
   ·rw[<-q];exact .step (ih.mono (by simp)) e (zRA (by rw[q];exact Ne.symm ne))
 exact(key a h2.1).ne List.mem_cons_self
theorem Dom.lin(h1:Dom ps g a x)(h2:Dom ps g b x):Dom ps g a b\/Dom ps g b a:=by
 by_cases e:Rc ps [a] g b
 ·refine .inr ⟨h1.rc,λz=>?_⟩
  have ne:a≠b:=λq=>e.ne (by rw[q];exact List.mem_cons_self)
  have key:∀x,Rc ps [] g x->Rc ps [a] g x\/Rc ps [b] g x:=λx h=>by
   induction h with
   |refl _ =>
    by_cases q:g=a
    ·exact .inr (.refl (zRA (by rw[q];exact ne)))
    ·exact .inl (.refl (zRA q))
   |@step x y _ e' _ ih =>
    rcases ih with ih|ih
    ·by_cases q:y=a
     ·exact .inr (by rw[q];exact z)
     ·exact .inl (.step ih e' (zRA q))
    ·by_cases q:y=b
     ·exact .inl (by rw[q];exact e)
     ·exact .inr (.step ih e' (zRA q))
  exact(key x h1.1).elim h1.2 h2.2
 ·exact .inl ⟨h2.rc,e⟩
theorem zG7{p q:Int->Bool}:∀{l:List Int},(∀x∈l,p x=true->q x=true)->(l.filter p).length<=(l.filter q).length
 |[],_=>Nat.le_refl _
 |x::l,h=>by
  have ih:=zG7 (l:=l) λy hy=>h y (List.mem_cons_of_mem _ hy)
  have hx:=h x List.mem_cons_self
  rw[List.filter_cons,List.filter_cons]
  split
  ·rename_i e;rw[if_pos (hx e)];simp only[List.length_cons];lia
  ·split
   ·simp only[List.length_cons];lia
   ·exact ih
theorem zEM{p q:Int->Bool}{y:Int}(hq:q y=true)(hp:¬p y=true):∀{l:List Int},(∀x∈l,p x=true->q x=true)->y∈l->(l.filter p).length<(l.filter q).length
 |x::l,h,hy=>by
  have ih1:=zG7 (l:=l) λy hy=>h y (List.mem_cons_of_mem _ hy)
  have hx:=h x List.mem_cons_self
  rw[List.filter_cons,List.filter_cons]
  rcases List.mem_cons.mp hy with e|hy
  ·subst e
   rw[if_neg hp,if_pos hq];simp only[List.length_cons];lia
  ·have ih:=zEM hq hp (l:=l) (λy hy=>h y (List.mem_cons_of_mem _ hy)) hy
   split
   ·rename_i e;rw[if_pos (hx e)];simp only[List.length_cons];lia
   ·split
    ·simp only[List.length_cons];lia
    ·exact ih
structure All(ps:List (Int×Int))(g:Int)(L:List Int):Prop where
 nd:L.Nodup
 mem:∀x,x∈L↔Rc ps [] g x
noncomputable instance domDec (ps:List (Int×Int)) (g c x:Int):Decidable (Dom ps g c x):=Classical.propDecidable _
noncomputable def mu(ps:List (Int×Int))(g:Int)(L:List Int)(x:Int):List Int:=L.filter λc=>decide (Dom ps g c x)
noncomputable def cu(ps:List (Int×Int))(g:Int)(L:List Int)(c:Int):List Int:=L.filter λx=>decide (Dom ps g c x)
variable{L zs zs':List Int}{p h:Int}
theorem zM2(A:All ps g L):c∈mu ps g L x↔Dom ps g c x:=by
 unfold mu;rw[List.mem_filter,decide_eq_true_eq,A.mem]
 exact⟨λz=>z.2,λz=>⟨z.rc,z⟩⟩
theorem yAJ(A:All ps g L):x∈cu ps g L c↔Dom ps g c x:=by
 unfold cu;rw[List.mem_filter,decide_eq_true_eq,A.mem]
 exact⟨λz=>z.2,λz=>⟨z.1,z⟩⟩
theorem zQU(A:All ps g L)(d:Dom ps g a b)(ne:a≠b):(mu ps g L a).length<(mu ps g L b).length:=by
 refine zEM (y:=b) (decide_eq_true (Dom.refl d.1)) (λz=>ne (d.anti (of_decide_eq_true z))) (λx _ z=>decide_eq_true ((of_decide_eq_true z:Dom ps g x a).trans d)) ((A.mem b).mpr d.1)
theorem yCF(A:All ps g L)(d:Dom ps g a b)(ne:a≠b):(cu ps g L b).length<(cu ps g L a).length:=by
 refine zEM (y:=a) (decide_eq_true (Dom.refl d.rc)) (λz=>ne (d.anti (of_decide_eq_true z))) (λx _ z=>decide_eq_true (d.trans (of_decide_eq_true z:Dom ps g b x))) ((A.mem a).mpr d.rc)
structure Srt(ps:List (Int×Int))(g:Int)(L:List Int)(x:Int)(zs:List Int):Prop where
 pm:zs.Perm (mu ps g L x)
 pw:zs.Pairwise λa b=>(mu ps g L a).length<(mu ps g L b).length
theorem Srt.mem(A:All ps g L)(S:Srt ps g L x zs):c∈zs↔Dom ps g c x:=by rw[S.pm.mem_iff,zM2 A]
theorem Srt.uniq(S:Srt ps g L x zs)(S':Srt ps g L x zs'):zs=zs' :=
 List.Perm.eq_of_pairwise (le:=λa b=>(mu ps g L a).length<(mu ps g L b).length) (λa b _ _ h1 h2=>by lia) S.pw S'.pw (S.pm.trans S'.pm.symm)
theorem zQV(h1:zs.Nodup)(A:All ps g L)(h:∀c,c∈zs↔Dom ps g c x):zs.Perm (mu ps g L x) :=
 (List.perm_ext_iff_of_nodup h1 (A.nd.filter _)).mpr λc=>by rw[h];exact(zM2 A).symm
theorem zIN(h:Dom ps g c g):c=g:=h.anti (Dom.gate h.rc)
theorem Srt.gate(A:All ps g L)(hg:Rc ps [] g g):Srt ps g L g [g] :=
 ⟨zQV (List.nodup_cons.mpr ⟨by simp,List.nodup_nil⟩) A λc=>by rw[List.mem_singleton];exact⟨λz=>by rw[z];exact .refl hg,zIN⟩,List.pairwise_singleton _ _⟩
structure IsH(ps:List (Int×Int))(g p h:Int):Prop where
 dom:Dom ps g h p
 ne:h≠p
 last:∀c,Dom ps g c p->c≠p->Dom ps g c h
theorem IsH.uniq{h':Int}(I:IsH ps g p h)(I':IsH ps g p h'):h=h':=(I'.last h I.dom I.ne).anti (I.last h' I'.dom I'.ne)
theorem Srt.nodup(S:Srt ps g L x zs):zs.Nodup:=S.pw.imp λh e=>by rw[e] at h;lia
theorem Srt.snoc(A:All ps g L)(I:IsH ps g p h)(S:Srt ps g L h zs):Srt ps g L p (zs++[p]):=by
 have hp:p∉zs:=λz=>I.ne (I.dom.anti ((S.mem A).mp z))
 refine⟨zQV (List.nodup_append.mpr ⟨S.nodup,List.nodup_cons.mpr ⟨by simp,List.nodup_nil⟩,λa ha b hb e=>hp (by rw[<-List.mem_singleton.mp hb,<-e];exact ha)⟩) A λc=>?_,List.pairwise_append.mpr ⟨S.pw,List.pairwise_singleton _ _,λa ha b hb=>?_⟩⟩
 ·rw[List.mem_append,List.mem_singleton,S.mem A]
  constructor
  ·rintro(z|z)
   ·exact z.trans I.dom
   ·rw[z];exact .refl I.dom.1
  ·intro z
   by_cases e:c=p
   ·exact .inr e
   ·exact .inl (I.last c z e)
 ·rw[List.mem_singleton.mp hb]
  exact zQU A (((S.mem A).mp ha).trans I.dom) λe=>hp (by rw[<-e];exact ha)
theorem Srt.last(A:All ps g L)(S:Srt ps g L p zs)(hp:Rc ps [] g p)(ne:p≠g):∃pre h,zs=pre++[h,p]/\IsH ps g p h:=by
 obtain⟨pre,post,e⟩:=List.append_of_mem ((S.mem A).mpr (Dom.refl hp))
 have pw:=S.pw
 rw[e,List.pairwise_append] at pw
 obtain⟨w1,w2,w3⟩:=pw
 rw[List.pairwise_cons] at w2
 have hpost:post=[]:=by
  cases post with
  |nil=>rfl
  |cons c post =>
   exfalso
   have h1:=w2.1 c List.mem_cons_self
   have hc:Dom ps g c p:=(S.mem A).mp (by rw[e];simp)
   by_cases q:c=p
   ·rw[q] at h1;lia
   ·have:=zQU A hc q;lia
 subst hpost
 rcases List.eq_nil_or_concat pre with hpre|⟨pre',h,hpre⟩
 ·exfalso
  have:=(S.mem A).mpr (Dom.gate hp)
  rw[e,hpre] at this
  exact ne (List.mem_singleton.mp this).symm
 ·have hpre:pre=pre'++[h]:=by simpa using hpre
  subst hpre
  refine⟨pre',h,by rw[e];simp,⟨(S.mem A).mp (by rw[e];simp),λq=>?_,λc hc q=>?_⟩⟩
  ·have:=w3 h (by simp) p List.mem_cons_self
   rw[q] at this;lia
  ·have hh:Dom ps g h p:=(S.mem A).mp (by rw[e];simp)
   have hcm:=(S.mem A).mpr hc
   rw[e,List.mem_append,List.mem_append,List.mem_singleton,List.mem_singleton] at hcm
   rcases hcm with(hcm|hcm)|hcm
   ·have lt:=(List.pairwise_append.mp w1).2.2 c hcm h List.mem_cons_self
    rcases hc.lin hh with z|z
    ·exact z
    ·by_cases q2:h=c
     ·rw[q2] at lt;lia
     ·have:=zQU A z q2;lia
   ·rw[hcm];exact .refl hh.rc
   ·exact absurd hcm q
open Classical in
noncomputable def zRB(ps:List (Int×Int))(g p:Int):Int:=if h:∃h,IsH ps g p h then h.choose else g
theorem zLZ(I:IsH ps g p h):zRB ps g p=h:=by
 have e:∃h,IsH ps g p h:=⟨h,I⟩
 unfold zRB;rw[dif_pos e];exact e.choose_spec.uniq I
theorem zKG:zRB ps g g=g:=by
 unfold zRB;rw[dif_neg];rintro⟨h,I⟩;exact I.ne (zIN I.dom)
noncomputable def zGG(ps:List (Int×Int))(g b:Int)(zs:List Int):Option Int:=zs.foldl (λacc c=>if Dom ps g c b/\b≠c then some c else acc) none
theorem zG8:zGG ps g b (zs++[c])=if Dom ps g c b/\b≠c then some c else zGG ps g b zs:=by
 unfold zGG;rw[List.foldl_append];rfl
theorem zL0:∀{ys:List Int} {acc:Option Int},(∀c∈ys,¬(Dom ps g c b/\b≠c))->ys.foldl (λacc c=>if Dom ps g c b/\b≠c then some c else acc) acc=acc
 |[],_,_=>rfl
 |c::ys,acc,h=>by rw[List.foldl_cons,if_neg (h c List.mem_cons_self)];exact zL0 λd hd=>h d (List.mem_cons_of_mem _ hd)
theorem zG9(h:∀c∈zs,¬(Dom ps g c b/\b≠c)):zGG ps g b zs=none:=zL0 h
theorem zQW{ys:List Int}(h:∀c∈ys,¬(Dom ps g c b/\b≠c)):zGG ps g b (zs++ys)=zGG ps g b zs:=by
 unfold zGG;rw[List.foldl_append];exact zL0 h
theorem zNZ(A:All ps g L)(pm:zs.Perm L)(pw:zs.Pairwise λa b=>(cu ps g L b).length<=(cu ps g L a).length)(I:IsH ps g b h):zGG ps g b zs=some h:=by
 obtain⟨pre,post,e⟩:=List.append_of_mem (pm.mem_iff.mpr ((A.mem h).mpr I.dom.rc))
 have nd:zs.Nodup:=pm.nodup_iff.mpr A.nd
 rw[e,show pre++h::post=(pre++[h])++post by simp,zQW,zG8,if_pos ⟨I.dom,Ne.symm I.ne⟩]
 rintro c hc ⟨d,ne⟩
 rw[e,List.pairwise_append,List.pairwise_cons] at pw
 rw[e,List.nodup_append,List.nodup_cons] at nd
 have h1:=pw.2.1.1 c hc
 have:=yCF A (I.last c d (Ne.symm ne)) (λq=>nd.2.1.1 (by rw[<-q];exact hc))
 lia
end
theorem zTN{gi:GI}{js:List Nat}{tt:Ev->Out (Bool×Ev)}{E E1:Ev}{ns:List Int}(p:Int->Bool)(cs:List Sl)(hi:gi E=.ok (ns.map D.int,E1))(hc:zK9 1 js E1=.no::cs)(hl:ns.length<10000)
  (ht:∀x∈ns,tt (.val (.int x)::cs)=.ok (p x,.val (.int x)::cs)) (hb:∀u,bck E1 (u::cs) 1 js=E1):zDW gi 1 js (.nm 0) tt (zAB 0) E=.ok (.lst ((ns.filter p).map D.int),E1):=by
 have:=zFU (gi:=gi) (k:=1) (js:=js) (t:=.nm 0) (tt:=tt) (ge:=zAB 0) (E:=E) (E1:=E1) (ds:=ns.map D.int) (λd=>match d with|.int x=>if p x=true then[.int x] else[]|_=>[]) (λE=>∃u,E=u::cs) hi ⟨_,hc⟩ (by rw[List.length_map];exact hl) (λd hd E hE=>by
  obtain⟨x,hx,rfl⟩:=List.mem_map.mp hd
  obtain⟨u,rfl⟩:=hE
  refine⟨_,rfl,p x,_,ht x hx,?_⟩
  by_cases h:p x=true
  ·exact .inl ⟨h,.int x,_,rfl,by simp only[h,if_true],_,rfl⟩
  ·exact .inr ⟨by simpa using h,by simp only[h,if_false];rfl,_,rfl⟩) (λEc ⟨u,e⟩=>by rw[e];exact hb u)
 rw[this,zFX (g:=D.int) p λx=>rfl]
section
variable{many gate c:Int}{ps:List (Int×Int)}
theorem zUP(R:Rg many ps)(h0:0<=gate)(h1:gate<many)(hc:Rc ps [] gate c):∃xs:List Int,zCC [.val (zB5 many ps),.val (.int gate),.val (.int c)]=.ok (false,.tup (xs.map D.int),.non)/\xs.Nodup/\∀x,x∈xs↔Dom ps gate c x:=by
 obtain⟨xs,e1,p1,m1⟩:=zG3 (start:=gate) R h0 h1
 obtain⟨ys,e2,p2,m2⟩:=zQP (cl:=[c]) (start:=gate) R h0 h1
 have hm2:=R.m2
 have nx:xs.Nodup:=p1.imp λe=>Int.ne_of_lt e
 have hl:xs.length<10000:=by
  have:=List.Nodup.length_le_of_subset (l₂:=ri many.toNat) nx λx hx=>mem_ri.mpr (by
   have:=((m1 x).mp hx).range R h0 h1;lia)
  rw[zEV] at this;lia
 refine⟨xs.filter λx=>decide (x∉ys),?_,nx.filter _,λx=>?_⟩
 ·have hcomp:=zTN (gi:=zAX (zAB 3)) (js:=[4]) (tt:=gB (g2 zB1 (zAB 0) (zAB 1))) (E:=[.val (zB5 many ps),.val (.int gate),.val (.int c),.val (.tup (xs.map D.int)),.val (.tup (ys.map D.int))]) (E1:=[.val (zB5 many ps),.val (.int gate),.val (.int c),.val (.tup (xs.map D.int)),.val (.tup (ys.map D.int))]) (λx=>decide (x∉ys)) [.val (.tup (ys.map D.int))] rfl rfl hl
   (λx _=>zB4 (zAL (x:=.int x) (y:=.tup (ys.map D.int)) rfl rfl (zG0 x ys))) λu=>rfl
  have t1:gB (g2 zB1 (zAB 2) (zAB 3)) [.val (zB5 many ps),.val (.int gate),.val (.int c),.val (.tup (xs.map D.int)),.no]=.ok (false,[.val (zB5 many ps),.val (.int gate),.val (.int c),.val (.tup (xs.map D.int)),.no]) :=
   zB4 (zAL (x:=.int c) (y:=.tup (xs.map D.int)) rfl rfl (by rw[zG0,decide_eq_false (λz=>z ((m1 c).mpr hc))]))
  exact zDH (zAK (zBC (zB0 (ds:=[zB5 many ps,.int gate]) rfl e1) rfl) (zAK (zLL t1 rfl) (zAK (zBC (zB0 (ds:=[zB5 many ps,.int gate,.tup [.int c]]) rfl e2) rfl) (zCA (zCR (zA6 hcomp) rfl))))) rfl
 ·rw[List.mem_filter,m1,decide_eq_true_eq,m2];rfl
noncomputable def dkI(f:Int->D)(L:List Int):List (Key×D):=L.map λp=>(Sum.inl p,f p)
theorem zEC{f:Int->D}{p:Int}:∀{L:List Int},p∈L->zDX (dkI f L) (.inl p)=some (f p)
 |x::L,h=>by
  unfold zDX dkI
  rw[List.map_cons,List.find?_cons]
  by_cases e:x=p
  ·subst e;simp
  ·have:decide ((Sum.inl x:Key)=Sum.inl p)=false:=decide_eq_false λz=>e (Sum.inl.inj z)
   simp only[this]
   exact zEC (L:=L) ((List.mem_cons.mp h).resolve_left (Ne.symm e))
theorem zM3{f:Int->D}{p:Int}{L:List Int}(h:p∉L):zEE (dkI f L) (.inl p) (f p)=dkI f (L++[p]):=by
 unfold zEE dkI
 rw[if_neg,List.map_append]
 ·rfl
 ·simp only[List.any_map,List.any_eq_true,Function.comp,decide_eq_true_eq,not_exists,not_and]
  exact λq hq z=>h (Sum.inl.inj z▸hq)
theorem zIO{f:Int->D}{L:List Int}:(dkI f L).map (λkv=>zUA kv.1)=L.map D.int:=by unfold dkI;rw[List.map_map];rfl
theorem zUQ{gv:G}(f:Int->D)(cs:List Sl):∀{ns acc:List Int} {u:Sl},(acc++ns).Nodup->(acc++ns).length<10000->(∀x∈ns,gv (.val (.int x)::cs)=.ok (f x,.val (.int x)::cs)) ->
  ∃u',zNJ (.nm 0) zQ4 (zGZ (zAB 0) gv) (ns.map D.int) (.dk (dkI f acc)) (u::cs)=.ok (.dk (dkI f (acc++ns)),u'::cs)
 |[],acc,u,_,_,_=>⟨u,by rw[List.append_nil];rfl⟩
 |x::ns,acc,u,nd,hl,hv=>by
  have hx:x∉acc:=λz=>(List.nodup_append.mp nd).2.2 x z x List.mem_cons_self rfl
  have hla:(dkI f acc).length<10000:=by unfold dkI;rw[List.length_map];rw[List.length_append] at hl;lia
  obtain⟨u',e⟩:=zUQ f cs (ns:=ns) (acc:=acc++[x]) (u:=.val (.int x)) (by rw[List.append_assoc];exact nd) (by rw[List.append_assoc];exact hl) λy hy=>hv y (List.mem_cons_of_mem _ hy)
  refine⟨u',?_⟩
  rw[List.append_assoc] at e
  have ge:zGZ (zAB 0) gv (.dk (dkI f acc)) (.val (.int x)::cs)=.ok (.dk (dkI f (acc++[x])),.val (.int x)::cs):=by
   refine zAH (a:=(.int x,.val (.int x)::cs)) rfl (zAH (hv x List.mem_cons_self) ?_)
   show few (dkI f acc).length (Out.ok (D.dk (zEE (dkI f acc) (.inl x) (f x)),Sl.val (.int x)::cs))=_
   rw[zEJ hla,zM3 hx]
  rw[List.map_cons,zNJ]
  refine zAH (a:=.val (.int x)::cs) rfl (zAH (a:=(true,.val (.int x)::cs)) rfl ?_)
  show(if true=true then _ else _)=_
  rw[if_pos rfl]
  exact zAH ge e
theorem zQX{ge:G}{ds:List D}(k:Int->Int):∀{cs:List Int},(∀c∈cs,ge (.val (.int c)::ds.map .val)=.ok (.int (k c),.val (.int c)::ds.map .val))->zQ8 ge ds (cs.map D.int)=.ok (cs.map k)
 |[],_=>rfl
 |c::cs,h=>by
  rw[List.map_cons,zQ8]
  exact zAH (a:=k c) (zAH (h c List.mem_cons_self) rfl) (zAH (zQX k λd hd=>h d (List.mem_cons_of_mem _ hd)) rfl)
theorem zM4{gl ge:G}{js:List Nat}{E E1:Ev}{cs:List Int}{ds:List D}(k:Int->Int)(hl:gl E=.ok (.lst (cs.map D.int),E1))(hv:valsJ (shareJ js E1) js=some ds)(hn:cs.length<64)
  (hk:∀c∈cs,ge (.val (.int c)::ds.map .val)=.ok (.int (k c),.val (.int c)::ds.map .val)):zFT gl js ge E=.ok ((cs.map D.int,cs.map k),shareJ js E1):=by
 refine zAH hl ?_
 show(match D.lst (cs.map D.int),valsJ (shareJ js E1) js with|.lst ys,some ds=>if ys.length<64 then(zQ8 ge ds ys).bind λkz=>.ok ((ys,kz),shareJ js E1) else .bad|_,_=>.bad)=_
 rw[hv]
 show(if(cs.map D.int).length<64 then(zQ8 ge ds (cs.map D.int)).bind λkz=>Out.ok ((cs.map D.int,kz),shareJ js E1) else .bad)=_
 rw[if_pos (by rw[List.length_map];exact hn)]
 exact zAH (zQX k hk) rfl
theorem zFD{α β γ:Type}(f:α->β)(h:α->γ):∀l:List α,(l.map f).zip (l.map h)=l.map λx=>(f x,h x)
 |[]=>rfl
 |x::l=>by rw[List.map_cons,List.map_cons,List.zip_cons_cons,zFD f h l];rfl
theorem zKH{k:Int->Int}{cs:List Int}{qs:List (Int×D)}(h:zQE (cs.map k) (cs.map D.int) qs):∃zs:List Int,qs=zs.map (λc=>(k c,D.int c))/\zs.Perm cs/\zs.Pairwise λa b=>k a<=k b:=by
 obtain⟨pm,pw⟩:=h
 rw[zFD] at pm
 have un:∀q∈qs,q=(k (match q.2 with|.int c=>c|_=>0),D.int (match q.2 with|.int c=>c|_=>0)):=λq hq=>by
  obtain⟨c,_,rfl⟩:=List.mem_map.mp (pm.mem_iff.mp hq)
  rfl
 have e:qs=(qs.map λq=>match q.2 with|.int c=>c|_=>0).map (λc=>(k c,D.int c)):=by
  rw[List.map_map]
  exact((List.map_congr_left λq hq=>(un q hq).symm).trans (List.map_id _)).symm
 refine⟨_,e,?_,?_⟩
 ·have:=pm.map (λq:Int×D=>match q.2 with|.int c=>c|_=>0)
  rw[List.map_map] at this
  exact this.trans (by rw[show((λq:Int×D=>match q.2 with|.int c=>c|_=>0)∘λc=>(k c,D.int c))=id from rfl,List.map_id])
 ·rw[e,List.pairwise_map] at pw
  exact pw
theorem zUR{k:Int->Int}:∀{zs:List Int},zs.Pairwise (λa b=>k a<k b)->∀a∈zs,∀b∈zs,k a=k b->a=b
 |z::zs,pw,a,ha,b,hb,e=>by
  obtain⟨p1,p2⟩:=List.pairwise_cons.mp pw
  rcases List.mem_cons.mp ha with e1|h1
  ·rcases List.mem_cons.mp hb with e2|h2
   ·rw[e1,e2]
   ·have:=p1 b h2;rw[<-e1] at this;lia
  ·rcases List.mem_cons.mp hb with e2|h2
   ·have:=p1 a h1;rw[<-e2] at this;lia
   ·exact zUR p2 a h1 b h2 e
open Classical in
theorem zTO{gl ge:G}{js:List Nat}{E E1:Ev}{cs zs:List Int}{k:Int->Int}(h:zFT gl js ge E=.ok ((cs.map D.int,cs.map k),E1))(pm:zs.Perm cs)(pw:zs.Pairwise λa b=>k a<k b):zJ2 gl js ge E=.ok (.lst (zs.map D.int),E1):=by
 refine zAH h ?_
 have q0:zQE (cs.map k) (cs.map D.int) (zs.map λc=>(k c,D.int c)):=⟨by rw[zFD];exact pm.map _,List.pairwise_map.mpr (pw.imp λh=>Int.le_of_lt h)⟩
 have ex:∃ws,∀qs,zQE (cs.map k) (cs.map D.int) qs->qs.map Prod.snd=ws:=⟨zs.map D.int,λqs hq=>by
  obtain⟨ws,rfl,p1,p2⟩:=zKH hq
  have:ws=zs:=List.Perm.eq_of_pairwise (le:=λa b=>k a<=k b) (λa b ha hb h1 h2=>zUR pw a ((p1.trans pm.symm).mem_iff.mp ha) b hb (by lia)) p2 (pw.imp λh=>Int.le_of_lt h) (p1.trans pm.symm)
  rw[this,List.map_map];rfl⟩
 show(if h:∃ws,∀qs,zQE (cs.map k) (cs.map D.int) qs->qs.map Prod.snd=ws then Out.ok (D.lst h.choose,E1) else .bad)=_
 rw[dif_pos ex,<-ex.choose_spec _ q0,List.map_map];rfl
end
noncomputable def opL(n:Nat)(φ:Int->Option Int):List D:=(ri n).map λb=>zC4 (φ b)
theorem zQY(n:Nat)(φ:Int->Option Int):(opL n φ).length=n:=by unfold opL;rw[List.length_map,zEV]
theorem yAK{n j:Nat}(h:j<n):(ri n)[j]?=some (j:Int):=by
 unfold ri;rw[List.getElem?_map,List.getElem?_range h];simp
theorem zXL{n:Nat}{φ:Int->Option Int}{b:Int}(h0:0<=b)(h1:b<n):atI (opL n φ) b=some (zC4 (φ b)):=by
 refine zJ4 h0 ?_
 unfold opL
 rw[List.getElem?_map,yAK (by lia)]
 simp only[Option.map_some]
 rw[show((b.toNat:Nat):Int)=b by lia]
theorem zQZ{many:Int}(h0:0<=many)(h1:many<=100):zN3 (.lst [.non]) (.int many)=.ok (.lst (opL many.toNat λ_=>none)):=by
 have e:(List.replicate many.toNat [D.non]).flatten=opL many.toNat λ_=>none:=by
  unfold opL ri
  rw[List.map_map]
  generalize many.toNat=n
  induction n with
  |zero=>rfl
  |succ n ih=>rw[List.range_succ,List.map_append,<-ih,List.replicate_succ',List.flatten_append];rfl
 simp only[zN3,L2.guard]
 rw[if_pos ⟨by lia,by lia,by simp;lia⟩,e]
theorem zL1{n:Nat}{φ:Int->Option Int}{b c:Int}(h0:0<=b)(h1:b<n):zWG (.lst (opL n φ)) (.int b) (.int c)=.ok (.lst (opL n λx=>if x=b then some c else φ x)):=by
 rw[zWV (j:=b.toNat) (by rw[zQY];exact zQH h0 h1)]
 congr 2
 refine List.ext_getElem? λj=>?_
 rw[List.getElem?_set]
 unfold opL
 rw[List.getElem?_map,List.getElem?_map,List.length_map,zEV]
 by_cases hj:j<n
 ·rw[yAK hj]
  by_cases e:b.toNat=j
  ·have:(j:Int)=b:=by lia
   simp[e,hj,this,zC4]
  ·have:¬(j:Int)=b:=by lia
   simp[e,this]
 ·have:(ri n)[j]?=none:=List.getElem?_eq_none (by rw[zEV];lia)
  rw[this]
  by_cases e:b.toNat=j
  ·lia
  ·simp[e]
theorem zM5(φ:Int->Option Int):∀l:List Int,D.flats (l.map λb=>zC4 (φ b))=true/\D.nods (l.map λb=>zC4 (φ b))=true
 |[]=>by simp[D.flats,D.nods]
 |b::l=>by
  obtain⟨h1,h2⟩:=zM5 φ l
  rw[List.map_cons,D.flats,D.nods,h1,h2]
  cases φ b<;>simp[zC4,D.flat,D.nod]
section
variable{ps:List (Int×Int)}{g:Int}{L:List Int}{p:Int}
noncomputable def chn(ps:List (Int×Int))(g:Int)(L:List Int)(p:Int):List Int:=(mu ps g L p).mergeSort λa b=>decide ((mu ps g L a).length<=(mu ps g L b).length)
theorem zC5(A:All ps g L):Srt ps g L p (chn ps g L p):=by
 have pm:(chn ps g L p).Perm (mu ps g L p):=List.mergeSort_perm _ _
 have nd:(chn ps g L p).Nodup:=pm.nodup_iff.mpr (A.nd.filter _)
 have pw:=List.pairwise_mergeSort (le:=λa b=>decide ((mu ps g L a).length<=(mu ps g L b).length)) (λa b c h1 h2=>decide_eq_true (Nat.le_trans (of_decide_eq_true h1) (of_decide_eq_true h2)))
  (λa b=>by rcases Nat.le_total (mu ps g L a).length (mu ps g L b).length with h|h<;>simp[h]) (mu ps g L p)
 refine⟨pm,(pw.and nd).imp_of_mem λ{a b} ha hb h=>?_⟩
 have h1:=of_decide_eq_true h.1
 have da:=(zM2 A).mp (pm.mem_iff.mp ha)
 have db:=(zM2 A).mp (pm.mem_iff.mp hb)
 rcases da.lin db with z|z
 ·exact zQU A z h.2
 ·have:=zQU A z (Ne.symm h.2);lia
theorem zKI(A:All ps g L)(hp:Rc ps [] g p)(ne:p≠g):∃h,IsH ps g p h:=let ⟨_,h,_,I⟩:=(zC5 A).last A hp ne;⟨h,I⟩
end
theorem zIP{many gate:Int}{ps:List (Int×Int)}{L:List Int}(R:Rg many ps)(h0:0<=gate)(h1:gate<many)(A:All ps gate L):L.length<=many.toNat:=by
 have:=List.Nodup.length_le_of_subset (l₂:=ri many.toNat) A.nd λx hx=>mem_ri.mpr (by
  have:=((A.mem x).mp hx).range R h0 h1;lia)
 rwa [zEV] at this
section
variable{many gate:Int}{ps:List (Int×Int)}
noncomputable abbrev zHA(ps:List (Int×Int))(gate:Int)(L:List Int):Int->D:=λp=>.tup ((chn ps gate L p).map D.int)
theorem zTP(R:Rg many ps)(hm:many<=24)(h0:0<=gate)(h1:gate<many):∃L,All ps gate L/\zBK [.val (zB5 many ps),.val (.int gate)]=.ok (false,.dk (dkI (zHA ps gate L) L),.non):=by
 obtain⟨L,eL,nd,mL⟩:=zKD (closed:=none) (gate:=gate) R h0 h1
 have A:All ps gate L:=⟨nd,mL⟩
 have hl:=zIP R h0 h1 A
 have hleft:=λc=>zKD (closed:=some c) (gate:=gate) R h0 h1
 have hrows:zJ5 L (λc=>(hleft c).choose)=.dk (dkI (λp=>.lst ((mu ps gate L p).map D.int)) L):=by
  unfold zJ5 dkI
  congr 1
  refine List.map_congr_left λp hp=>?_
  congr 3
  refine List.filter_congr λc hc=>decide_eq_decide.mpr ?_
  rw[(hleft c).choose_spec.2.2 p]
  exact⟨λz=>⟨(mL p).mp hp,z⟩,λz=>z.2⟩
 have gt:=zWX (m:=zBJ) (E:=[.val (zB5 many ps),.val (.int gate),.own false (.dk []),.no,.no,.no,.no]) (net:=zB5 many ps) (gate:=.int gate) (L:=L) (left:=λc=>(hleft c).choose) ⟨rfl,⟨_,_,eL⟩,nd,by lia,λc _=>⟨_,_,(hleft c).choose_spec.1⟩⟩
 rw[hrows] at gt
 obtain⟨rows,hr⟩:∃rows,rows=dkI (λp=>.lst ((mu ps gate L p).map D.int)) L:=⟨_,rfl⟩
 rw[<-hr] at gt
 have hget:∀p∈L,ixD (.dk rows) (.int p)=.ok (.lst ((mu ps gate L p).map D.int)):=λp hp=>by rw[hr];exact yAY (zEC hp)
 have hml:∀p,(mu ps gate L p).length<64:=λp=>by
  have:=List.length_filter_le (λc=>decide (Dom ps gate c p)) L
  unfold mu;lia
 obtain⟨E',e,u3,rfl⟩:=zCM (gi:=zAX (zAB 2)) (t:=.nm 3) (g:=zAO 6 (zAB 3) (gN zMN [(zJ2 (g2 ixD (zAB 2) (zAB 3)) [2] (gN zE3 [(g2 ixD (zAB 1) (zAB 0))]))]))
  (E:=[.val (zB5 many ps),.val (.int gate),.val (.dk rows),.no,.no,.no,.own false (.dk [])]) (ds:=L.map D.int)
  (λi E=>∃u3,E=[.val (zB5 many ps),.val (.int gate),.val (.dk rows),u3,.no,.no,.own false (.dk (dkI (zHA ps gate L) (L.take i)))])
  (zAH (a:=(.dk rows,[.val (zB5 many ps),.val (.int gate),.val (.dk rows),.no,.no,.no,.own false (.dk [])])) rfl (by rw[hr];exact congrArg (λz=>Out.ok (z,_)) zIO)) ⟨_,rfl⟩
  (λi x E hx hP=>by
   obtain⟨u3,rfl⟩:=hP
   rw[List.getElem?_map] at hx
   obtain⟨p,hp,rfl⟩:=Option.map_eq_some_iff.mp hx
   obtain⟨hi,hp'⟩:=List.getElem?_eq_some_iff.mp hp
   have hpL:=List.mem_of_getElem? hp
   have S:=zC5 (p:=p) A
   have ks:=zTO (zs:=chn ps gate L p) (zM4 (gl:=g2 ixD (zAB 2) (zAB 3)) (ge:=gN zE3 [(g2 ixD (zAB 1) (zAB 0))]) (js:=[2]) (E:=[.val (zB5 many ps),.val (.int gate),.val (.dk rows),.val (.int p),.no,.no,.own false (.dk (dkI (zHA ps gate L) (L.take i)))]) (λc=>((mu ps gate L c).length:Int))
    (zAL (x:=.dk rows) (y:=.int p) rfl rfl (hget p hpL)) (ds:=[.dk rows]) rfl (hml p) λc hc=>zCR (zA6 (zAL (x:=.dk rows) (y:=.int c) rfl rfl (hget c (List.mem_filter.mp hc).1))) (zWT (by rw[List.length_map]))) S.pm (S.pw.imp λh=>by lia)
   refine⟨_,rfl,_,zAZ (i:=6) (t:=false) (d:=.dk (dkI (zHA ps gate L) (L.take i))) (v:=zHA ps gate L p) (k:=.int p) (d':=.dk (dkI (zHA ps gate L) (L.take (i+1)))) rfl (zCR (zA6 ks) rfl) rfl rfl ?_,_,rfl⟩
   rw[zZ9 (by unfold dkI;rw[List.length_map,List.length_take];lia),List.take_succ_eq_append_getElem hi,hp']
   congr 2
   exact zM3 (f:=zHA ps gate L) (by rw[<-hp'];exact zIE nd hi))
 rw[List.length_map,List.take_length] at e
 exact⟨L,A,zDH (zAK (zBN (d:=.dk []) rfl) (zAK gt (zAK (zBN (d:=.dk []) rfl) (zAK e (zCA rfl))))) rfl⟩
open Classical in
theorem zXM{gl ge:G}{js ks:List Nat}{t:Tg}{g:GS}{E E1 Ef:Ev}{cs:List Int}{k:Int->Int}(h:zFT gl js ge E=.ok ((cs.map D.int,cs.map k),E1))
  (hz:∀zs:List Int,zs.Perm cs->zs.Pairwise (λa b=>k a<=k b)->∃E2,zCP t g (zs.map D.int) E1=.ok (.nx E2)/\hush ks E2=Ef):zQF gl js ge t g ks E=.ok (.nx Ef):=by
 refine zAH h ?_
 have pm:(cs.mergeSort λa b=>decide (k a<=k b)).Perm cs:=List.mergeSort_perm _ _
 have pw:=List.pairwise_mergeSort (le:=λa b=>decide (k a<=k b)) (λa b c h1 h2=>decide_eq_true (Int.le_trans (of_decide_eq_true h1) (of_decide_eq_true h2)))
  (λa b=>by rcases Int.le_total (k a) (k b) with h|h<;>simp[h]) cs
 have q0:zQE (cs.map k) (cs.map D.int) ((cs.mergeSort λa b=>decide (k a<=k b)).map λc=>(k c,D.int c)):=⟨by rw[zFD];exact pm.map _,List.pairwise_map.mpr (pw.imp λh=>of_decide_eq_true h)⟩
 have al:∀qs,zQE (cs.map k) (cs.map D.int) qs->∃E2,zCP t g (qs.map Prod.snd) E1=.ok (.nx E2)/\hush ks E2=Ef:=λqs hq=>by
  obtain⟨ws,rfl,p1,p2⟩:=zKH hq
  rw[List.map_map]
  exact hz ws p1 p2
 have ex:∃E0,∀qs,zQE (cs.map k) (cs.map D.int) qs->∃E2,zCP t g (qs.map Prod.snd) E1=.ok (.nx E2)/\hush ks E2=E0:=⟨Ef,al⟩
 show(if h:∃E0,∀qs,zQE (cs.map k) (cs.map D.int) qs->∃E2,zCP t g (qs.map Prod.snd) E1=.ok (.nx E2)/\hush ks E2=E0 then Out.ok (Fl.nx h.choose) else .bad)=_
 rw[dif_pos ex]
 obtain⟨E2,a1,a2⟩:=ex.choose_spec _ q0
 obtain⟨E3,b1,b2⟩:=al _ q0
 rw[a1] at b1
 cases b1
 rw[<-a2,b2]
end
section
variable{many gate:Int}{ps:List (Int×Int)}
open Classical in
noncomputable def hO(ps:List (Int×Int))(g b:Int):Option Int:=if Rc ps [] g b then some (zRB ps g b) else none
noncomputable def hE(many:Int)(ps:List (Int×Int))(gate:Int)(cuts:D)(φ:Int->Option Int)(o4 o5:Option D):Ev:=[.val (zB5 many ps),.val (.int gate),.val cuts,.own false (.lst (opL many.toNat φ)),slO o4,slO o5]
noncomputable abbrev hB:GS:=zE7 (gB (g2 neD (zAB 5) (zAB 4))) (zAO 3 (zAB 5) (zAB 4)) gNx
theorem yAL{cuts:D}{φ:Int->Option Int}{o5:Option D}{c:Int}{xs:List Int}(hx:ixD cuts (.int c)=.ok (.tup (xs.map D.int)))(hr:∀x∈xs,0<=x/\x<many) :
  ∃o5',zED (zAX (g2 ixD (zAB 2) (zAB 4))) (.nm 5) hB (hE many ps gate cuts φ (some (.int c)) o5)=.ok (.nx (hE many ps gate cuts (λb=>if b∈xs/\b≠c then some c else φ b) (some (.int c)) o5')):=by
 obtain⟨E',e,o5',rfl⟩:=zCM (gi:=zAX (g2 ixD (zAB 2) (zAB 4))) (t:=.nm 5) (g:=hB) (E:=hE many ps gate cuts φ (some (.int c)) o5) (ds:=xs.map D.int)
  (λi E=>∃o5',E=hE many ps gate cuts (λb=>if b∈xs.take i/\b≠c then some c else φ b) (some (.int c)) o5')
  (zID (zAL (x:=cuts) (y:=.int c) rfl rfl hx)) ⟨o5,by simp⟩
  (λi x E hx hP=>by
   obtain⟨o5,rfl⟩:=hP
   rw[List.getElem?_map] at hx
   obtain⟨b,hb,rfl⟩:=Option.map_eq_some_iff.mp hx
   obtain⟨hi,hb'⟩:=List.getElem?_eq_some_iff.mp hb
   obtain⟨b0,b1⟩:=hr b (List.mem_of_getElem? hb)
   have tm:∀q,q∈xs.take (i+1)↔q∈xs.take i\/q=b:=by rw[<-hb'];exact zEB hi
   have t1:gB (g2 neD (zAB 5) (zAB 4)) (hE many ps gate cuts (λb=>if b∈xs.take i/\b≠c then some c else φ b) (some (.int c)) (some (.int b)))=.ok (decide (b≠c),hE many ps gate cuts (λb=>if b∈xs.take i/\b≠c then some c else φ b) (some (.int c)) (some (.int b))) :=
    zB4 (zAL (x:=.int b) (y:=.int c) rfl rfl (zH8 _ _))
   by_cases e:b=c
   ·rw[decide_eq_false (λz=>z e)] at t1
    refine⟨_,rfl,_,zLL t1 rfl,some (.int b),?_⟩
    congr 1
    funext q
    have:(q∈xs.take (i+1)/\q≠c)↔(q∈xs.take i/\q≠c):=by
     rw[tm];constructor
     ·rintro⟨z|z,n⟩
      ·exact⟨z,n⟩
      ·exact absurd (z.trans e) n
     ·rintro⟨z,n⟩;exact⟨.inl z,n⟩
    simp only[this]
   ·rw[decide_eq_true e] at t1
    refine⟨_,rfl,_,zS2 t1 (zAZ (i:=3) (t:=false) (d:=.lst (opL many.toNat λb=>if b∈xs.take i/\b≠c then some c else φ b)) (v:=.int c) (k:=.int b) rfl rfl rfl rfl (zL1 b0 (by lia))),some (.int b),?_⟩
    show hE many ps gate cuts _ (some (.int c)) (some (.int b))=_
    congr 1
    funext q
    by_cases eq:q=b
    ·subst eq
     rw[if_pos rfl,if_pos ⟨(tm q).mpr (.inr rfl),e⟩]
    ·have:(q∈xs.take (i+1)/\q≠c)↔(q∈xs.take i/\q≠c):=by
      rw[tm];constructor
      ·rintro⟨z|z,n⟩
       ·exact⟨z,n⟩
       ·exact absurd z eq
      ·rintro⟨z,n⟩;exact⟨.inl z,n⟩
     simp only[this,if_neg eq])
 rw[List.length_map,List.take_length] at e
 exact⟨o5',e⟩
theorem zN0(R:Rg many ps)(hm:many<=24)(h0:0<=gate)(h1:gate<many):zCV [.val (zB5 many ps),.val (.int gate)]=.ok (false,.tup (opL many.toNat (hO ps gate)),.non):=by
 obtain⟨xs,e1,p1,m1⟩:=zG3 (start:=gate) R h0 h1
 have A:All ps gate xs:=⟨p1.imp λe=>Int.ne_of_lt e,m1⟩
 have hl:=zIP R h0 h1 A
 obtain⟨cut,hcut⟩:∃cut:Int->List Int,∀c∈xs,zCC [.val (zB5 many ps),.val (.int gate),.val (.int c)]=.ok (false,.tup ((cut c).map D.int),.non)/\(cut c).Nodup/\∀x,x∈cut c↔Dom ps gate c x:=by
  have:=λc=>Classical.em (Rc ps [] gate c)
  refine⟨λc=>(open Classical in if h:Rc ps [] gate c then(zUP R h0 h1 h).choose else[]),λc hc=>?_⟩
  have h:=(m1 c).mp hc
  simp only[dif_pos h]
  exact(zUP R h0 h1 h).choose_spec
 have hkey:∀c∈xs,(cut c).length=(cu ps gate xs c).length:=λc hc=>((List.perm_ext_iff_of_nodup (hcut c hc).2.1 (A.nd.filter _)).mpr λx=>by rw[(hcut c hc).2.2];exact(yAJ A).symm).length_eq
 obtain⟨cuts,hc⟩:∃cuts,cuts=D.dk (dkI (λp=>.tup ((cut p).map D.int)) xs):=⟨_,rfl⟩
 have hget:∀p∈xs,ixD cuts (.int p)=.ok (.tup ((cut p).map D.int)):=λp hp=>by rw[hc];exact yAY (zEC hp)
 -- the cuts
 have s1:zFO (zAX (zB9 zCB [(zAB 0),(zAB 1)])) 1 [0,1] (.dk []) (.nm 0) zQ4 (zGZ (zAB 0) (zB9 zCC [(zAB 1),(zAB 2),(zAB 0)])) [.val (zB5 many ps),.val (.int gate),.no,.no,.no,.no]=.ok (cuts,[.val (zB5 many ps),.val (.int gate),.no,.no,.no,.no]):=by
  obtain⟨u',e⟩:=zUQ (gv:=zB9 zCC [(zAB 1),(zAB 2),(zAB 0)]) (λp=>.tup ((cut p).map D.int)) [.val (zB5 many ps),.val (.int gate)] (ns:=xs) (acc:=[]) (u:=.no) A.nd (by rw[List.nil_append];lia) λx hx=>zB0 (ds:=[zB5 many ps,.int gate,.int x]) rfl (hcut x hx).1
  rw[List.nil_append,<-hc] at e
  exact zAH (zID (zB0 (ds:=[zB5 many ps,.int gate]) rfl e1)) (zAH e rfl)
 have s3:zQF (gN zJW [(zAB 2)]) [2] (g1 zGB (gN zE3 [(g2 ixD (zAB 1) (zAB 0))])) (.nm 4) (zED (zAX (g2 ixD (zAB 2) (zAB 4))) (.nm 5) hB) [4,5] (hE many ps gate cuts (λ_=>none) none none)
   = .ok (.nx (hE many ps gate cuts (λb=>if b=gate then none else hO ps gate b) none none)):=by
  refine zXM (cs:=xs) (k:=λc=>-((cut c).length:Int)) (zM4 (λc=>-((cut c).length:Int)) (zCR (ds:=[cuts]) (zA6 rfl) (by rw[hc];exact congrArg (λz=>Out.ok (D.lst z)) zIO)) (ds:=[cuts]) rfl (by lia) λc hcx=>?_) λzs pm pw=>?_
  ·exact zAH (zCR (zA6 (zAL (x:=cuts) (y:=.int c) rfl rfl (hget c hcx))) (zZ6 (by rw[List.length_map]))) rfl
  ·obtain⟨E',e,o4,o5,rfl⟩:=zFC (t:=.nm 4) (g:=zED (zAX (g2 ixD (zAB 2) (zAB 4))) (.nm 5) hB) (ds:=zs.map D.int) (E:=hE many ps gate cuts (λ_=>none) none none)
    (λi E=>∃o4 o5,E=hE many ps gate cuts (λb=>zGG ps gate b (zs.take i)) o4 o5) 0 ⟨none,none,rfl⟩ (λi x E hx hP=>by
     rw[Nat.zero_add] at hP ⊢
     obtain⟨o4,o5,rfl⟩:=hP
     rw[List.getElem?_map] at hx
     obtain⟨c,hcz,rfl⟩:=Option.map_eq_some_iff.mp hx
     obtain⟨hi,hc'⟩:=List.getElem?_eq_some_iff.mp hcz
     have hcx:c∈xs:=pm.mem_iff.mp (List.mem_of_getElem? hcz)
     obtain⟨o5',e⟩:=yAL (many:=many) (ps:=ps) (gate:=gate) (φ:=λb=>zGG ps gate b (zs.take i)) (o5:=o5) (hget c hcx) λx hx=>(((hcut c hcx).2.2 x).mp hx).1.range R h0 h1
     refine⟨_,rfl,_,e,some (.int c),o5',?_⟩
     congr 1
     funext b
     rw[List.take_succ_eq_append_getElem hi,hc',zG8]
     have:(b∈cut c/\b≠c)↔(Dom ps gate c b/\b≠c):=by rw[(hcut c hcx).2.2]
     simp only[this])
   refine⟨_,e,?_⟩
   rw[List.length_map,Nat.zero_add,List.take_length]
   have hh:∀φ:Int->Option Int,hush [4,5] (hE many ps gate cuts φ o4 o5)=hE many ps gate cuts φ none none:=λφ=>by cases o4<;>cases o5<;>rfl
   rw[hh]
   congr 1
   funext b
   have pw':zs.Pairwise λa b=>(cu ps gate xs b).length<=(cu ps gate xs a).length:=pw.imp_of_mem λ{a b} ha hb h=>by
    rw[hkey a (pm.mem_iff.mp ha),hkey b (pm.mem_iff.mp hb)] at h;lia
   by_cases eb:b=gate
   ·rw[if_pos eb]
    exact zG9 λc _ z=>z.2 (by rw[eb] at z ⊢;exact(zIN z.1).symm)
   ·rw[if_neg eb]
    unfold hO
    by_cases hb:Rc ps [] gate b
    ·rw[if_pos hb]
     obtain⟨h,I⟩:=zKI A hb eb
     rw[zLZ I]
     exact zNZ A pm pw' I
    ·rw[if_neg hb]
     exact zG9 λc _ z=>hb z.1.1
 have hg:Rc ps [] gate gate:=.refl (by simp)
 have hfin:(λx=>if x=gate then some gate else if x=gate then none else hO ps gate x)=hO ps gate:=by
  funext x
  by_cases e:x=gate
  ·rw[if_pos e,e];unfold hO;rw[if_pos hg,zKG]
  ·rw[if_neg e,if_neg e]
 have s4:=zAZ (i:=3) (gk:=zAB 1) (gv:=zAB 1) (E:=hE many ps gate cuts (λb=>if b=gate then none else hO ps gate b) none none) (E1:=hE many ps gate cuts (λb=>if b=gate then none else hO ps gate b) none none) (E2:=hE many ps gate cuts (λb=>if b=gate then none else hO ps gate b) none none) (t:=false) (t2:=false) (d0:=.lst (opL many.toNat λb=>if b=gate then none else hO ps gate b)) (d:=.lst (opL many.toNat λb=>if b=gate then none else hO ps gate b)) (v:=.int gate) (k:=.int gate) rfl rfl rfl rfl (zL1 h0 (by lia))
 rw[hfin] at s4
 have fl:=zM5 (hO ps gate) (ri many.toNat)
 have lo:zD7 [3] (hE many ps gate cuts (hO ps gate) none none) (.tup (opL many.toNat (hO ps gate)))=true:=by
  unfold zD7
  rw[D.flat,D.nod,opL,fl.1,fl.2];simp
 exact zDH (zAK (zBC s1 rfl) (zAK (zBN (zAL (x:=.lst [.non]) (y:=.int many) rfl (zAL (x:=zB5 many ps) (y:=.int 0) rfl rfl rfl) (zQZ (by lia) (by lia)))) (zAK s3 (zAK s4 (zCA (zC7 (E':=zDO [3] (hE many ps gate cuts (hO ps gate) none none)) (zCR (ds:=[.lst (opL many.toNat (hO ps gate))]) (zA6 rfl) rfl) lo)))))) rfl
end
theorem Net.rg'{many:Int}{ps:List (Int×Int)}(N:Net many ps):Rg many ps:=⟨by have:=N.m1;lia,by have:=N.m2;lia,by have:=N.len;lia,λp hp=>let ⟨a,b,c,d,_⟩:=N.rg p hp;⟨a,b,c,d⟩⟩
theorem Pl.intsT(xs:List Int):Pl 60 (.tup (xs.map D.int)):=Pls.tup (n:=59) (Pls.ints _ xs)
theorem zM6{α β:Type}(f:α->β)(xs:List α)(lo hi:Option Int):zKJ (xs.map f) lo hi=(zKJ xs lo hi).map f:=by
 unfold zKJ
 rw[List.length_map,<-List.map_drop,<-List.map_take]
theorem zXN(ns:List Int):∃c:Int,zBR [.val (.lst (ns.map D.int)),.val (.int 0)]=.ok (false,.int c,.non):=by
 unfold zBR
 cases ns with
 |nil=>exact⟨0,zDH (zAK (zLL (E1:=[.val (.lst []),.val (.int 0)]) (zB4 (zAL (x:=.int 0) (y:=.int 0) rfl (zCR (zA6 (d:=.lst []) rfl) rfl) rfl)) rfl) (zCA (d:=.int 0) rfl)) rfl⟩
 |cons n ns =>
  refine⟨n,zDH (zMR (E1:=[.val (.lst ((n::ns).map D.int)),.val (.int 0)]) (zS2 (E1:=[.val (.lst ((n::ns).map D.int)),.val (.int 0)]) (zB4 (zAL (x:=.int 0) (y:=.int ((n::ns).map D.int).length) rfl (zCR (zA6 (d:=.lst ((n::ns).map D.int)) rfl) rfl) ?_)) (zCA (zAL (x:=.lst ((n::ns).map D.int)) (y:=.int 0) rfl rfl (zXJ (xs:=[]) (by decide) rfl))))) rfl⟩
  simp only[ltD]
  rw[decide_eq_true (by simp only[List.map_cons,List.length_cons];lia)]
theorem zTQ{α:Type}(ws:List α)(p:α):zKJ (ws++[p]) none (some (-1))=ws:=by
 unfold zKJ
 have h1:HT.sIx (ws++[p]).length 0 none=0:=rfl
 have h2:HT.sIx (ws++[p]).length (ws++[p]).length (some (-1))=ws.length:=by
  show(if(-1:Int)<0 then(-1+((ws++[p]).length:Int)).toNat else min (-1:Int).toNat (ws++[p]).length)=_
  rw[if_pos (by decide),List.length_append,List.length_singleton];lia
 rw[h1,h2];simp
theorem Pl.op(n:Nat)(φ:Int->Option Int):Pl 60 (.tup (opL n φ)):=Pls.tup (n:=59) (Pls.of λb _=>by cases φ b<;>first|exact .non _|exact .int _ _)
section
variable{many gate:Int}{ps:List (Int×Int)}{L:List Int}{sc:D}{u1:Sl}
noncomputable def lE(sc:D)(u1:Sl)(many:Int)(ps:List (Int×Int))(gate:Int)(tab:D)(u5 u6 u7 u8:Sl):Ev:=[.val sc,u1,.val (zB5 many ps),.val (.int gate),.val tab,u5,u6,u7,u8]
noncomputable abbrev yA1:G:=(g2 ixD (g2 zC1 (zFP (g2 ixD (zAB 4) (zAB 6)) none (some (g1 zGB (gC (.int 1))))) (zDP [(zAB 3)])) (gN zP1 [(gC (.int 0)),(g2 zQ5 (gN zE3 [(g2 ixD (zAB 4) (zAB 6))]) (gC (.int 2)))]))
theorem yD9{tab:D}{u5 u7 u8:Sl}{p:Int}(A:All ps gate L)(hp:Rc ps [] gate p)(hL:L.length<=24)(ht:ixD tab (.int p)=.ok (.tup ((chn ps gate L p).map D.int))) :
  yA1 (lE sc u1 many ps gate tab u5 (.val (.int p)) u7 u8)=.ok (.int (zRB ps gate p),lE sc u1 many ps gate tab u5 (.val (.int p)) u7 u8):=by
 obtain⟨ws,hw,hx⟩:∃ws,chn ps gate L p=ws++[p]/\atI ((ws++[gate]).map D.int) (if(((ws.length+1:Nat):Int)-2)>0 then((ws.length+1:Nat):Int)-2 else 0)=some (.int (zRB ps gate p)):=by
  by_cases e:p=gate
  ·subst e
   refine⟨[],(zC5 A).uniq (Srt.gate A hp),?_⟩
   rw[zKG];rfl
  ·obtain⟨pre,h,hz,I⟩:=(zC5 A).last A hp e
   refine⟨pre++[h],by rw[hz];simp,?_⟩
   rw[zLZ I]
   have:(if((((pre++[h]).length+1:Nat):Int)-2)>0 then(((pre++[h]).length+1:Nat):Int)-2 else 0)=(pre.length:Int):=by
    rw[List.length_append,List.length_singleton];split<;>lia
   rw[this]
   exact zKT (by simp)
 have hwl:ws.length<100:=by
  have:=(zC5 (p:=p) A).pm.length_eq
  rw[hw,List.length_append,List.length_singleton] at this
  have h2:=List.length_filter_le (λc=>decide (Dom ps gate c p)) L
  unfold mu at this;lia
 rw[hw] at ht
 have e1:zFP (g2 ixD (zAB 4) (zAB 6)) none (some (g1 zGB (gC (.int 1)))) (lE sc u1 many ps gate tab u5 (.val (.int p)) u7 u8)=.ok (.tup (ws.map D.int),lE sc u1 many ps gate tab u5 (.val (.int p)) u7 u8):=by
  refine zAH (zAL (x:=tab) (y:=.int p) rfl rfl ht) (zAH (a:=(none,lE sc u1 many ps gate tab u5 (.val (.int p)) u7 u8)) rfl (zAH (a:=(some (-1),lE sc u1 many ps gate tab u5 (.val (.int p)) u7 u8)) rfl ?_))
  show Out.ok (D.tup (zKJ ((ws++[p]).map D.int) none (some (-1))),_)=_
  rw[zM6,zTQ]
 have e2:g2 zC1 (zFP (g2 ixD (zAB 4) (zAB 6)) none (some (g1 zGB (gC (.int 1))))) (zDP [(zAB 3)]) (lE sc u1 many ps gate tab u5 (.val (.int p)) u7 u8)=.ok (.tup ((ws++[gate]).map D.int),lE sc u1 many ps gate tab u5 (.val (.int p)) u7 u8):=by
  refine zAL e1 (y:=.tup [.int gate]) rfl ?_
  show few ((ws.map D.int).length+1) (Out.ok (D.tup (ws.map D.int++[.int gate])))=_
  rw[zEJ (by rw[List.length_map];lia),List.map_append];rfl
 refine zAL e2 (y:=.int (if(((ws.length+1:Nat):Int)-2)>0 then((ws.length+1:Nat):Int)-2 else 0)) ?_ (yC8 hx)
 refine zCR (zAR (d:=.int 0) rfl (zA6 (zAL (x:=.int ((ws.length+1:Nat):Int)) (zCR (zA6 (zAL (x:=tab) (y:=.int p) rfl rfl ht)) (zZ6 (by simp))) (y:=.int 2) rfl (d:=.int (((ws.length+1:Nat):Int)-2)) rfl))) rfl
theorem zUS{ge:G}{f:Int->D}{E E1:Ev}(h:ge E=.ok (.dk (dkI f L),E1)):zAX ge E=.ok (L.map D.int,E1):=zAH h (congrArg (λz=>Out.ok (z,E1)) zIO)
theorem yAM{u6 u7 u8:Sl}(A:All ps gate L)(R:Rg many ps)(h0:0<=gate)(h1:gate<many)(hm:many<=24) :
  ∃u6',zED (zAX (zAB 4)) (.nm 6) (zAO 5 (zAB 6) yA1) (lE sc u1 many ps gate (.dk (dkI (zHA ps gate L) L)) (.own false (.lst (opL many.toNat λ_=>none))) u6 u7 u8)=.ok (.nx (lE sc u1 many ps gate (.dk (dkI (zHA ps gate L) L)) (.own false (.lst (opL many.toNat (hO ps gate)))) u6' u7 u8)):=by
 have hl:=zIP R h0 h1 A
 obtain⟨E',e,u6',rfl⟩:=zCM (gi:=zAX (zAB 4)) (t:=.nm 6) (g:=zAO 5 (zAB 6) yA1) (E:=lE sc u1 many ps gate (.dk (dkI (zHA ps gate L) L)) (.own false (.lst (opL many.toNat λ_=>none))) u6 u7 u8) (ds:=L.map D.int)
  (λi E=>∃u6,E=lE sc u1 many ps gate (.dk (dkI (zHA ps gate L) L)) (.own false (.lst (opL many.toNat λb=>if b∈L.take i then some (zRB ps gate b) else none))) u6 u7 u8) (zUS rfl) ⟨u6,by simp⟩
  (λi x E hx hP=>by
   obtain⟨u6,rfl⟩:=hP
   rw[List.getElem?_map] at hx
   obtain⟨p,hp,rfl⟩:=Option.map_eq_some_iff.mp hx
   obtain⟨hi,hp'⟩:=List.getElem?_eq_some_iff.mp hp
   have hpL:=List.mem_of_getElem? hp
   have hpr:=(A.mem p).mp hpL
   obtain⟨p0,p1⟩:=hpr.range R h0 h1
   have d1:=yD9 (sc:=sc) (u1:=u1) (many:=many) (tab:=.dk (dkI (zHA ps gate L) L)) (u5:=.own false (.lst (opL many.toNat λb=>if b∈L.take i then some (zRB ps gate b) else none))) (u7:=u7) (u8:=u8) A hpr (by lia) (yAY (zEC hpL))
   refine⟨_,rfl,_,zAZ (i:=5) (t:=false) (d:=.lst (opL many.toNat λb=>if b∈L.take i then some (zRB ps gate b) else none)) rfl d1 (k:=.int p) rfl rfl (zL1 p0 (by lia)),.val (.int p),?_⟩
   show lE sc u1 many ps gate (.dk (dkI (zHA ps gate L) L)) (.own false (.lst (opL many.toNat _))) (.val (.int p)) u7 u8=_
   congr 4
   funext b
   have tm:=zEB hi b
   rw[hp'] at tm
   by_cases eb:b=p
   ·rw[if_pos eb,if_pos (tm.mpr (.inr eb)),eb]
   ·have:b∈L.take (i+1)↔b∈L.take i:=by rw[tm];exact⟨λz=>z.resolve_right eb,.inl⟩
    simp only[this,if_neg eb])
 refine⟨u6',?_⟩
 rw[e,List.length_map,List.take_length]
 congr 6
 funext b
 unfold hO
 by_cases hb:b∈L
 ·rw[if_pos hb,if_pos ((A.mem b).mp hb)]
 ·rw[if_neg hb,if_neg (λz=>hb ((A.mem b).mpr z))]
end
section
variable{many gate:Int}{ps:List (Int×Int)}{L:List Int}{sc:D}{cell:Int}
noncomputable abbrev yCG:GS:=(zA2 (zCL 8 (zBM [(zAB 6)]))
 (zA2 (gWh (zBY [8] (zEZ (gB (g2 neD (g2 ixD (zAB 8) (g1 zGB (gC (.int 1)))) (zAB 3))) (gB (g2 leD (gN zE3 [(zAB 8)]) (g2 ixD (zAB 2) (gC (.int 0)))))))
 (zFM (zB3 8 zIQ [(zD8 [8] (g2 ixD (zAB 7) (g2 ixD (zAB 8) (g1 zGB (gC (.int 1))))))])) 100000)
 (zE7 (zBY [8] (gB (g2 neD (gN zMN [(zZ3 (zAB 8) (g1 zGB (gC (.int 1))))]) (g2 ixD (zAB 4) (zAB 6)))))
 (zF4 (gC (.bl false)))
 gNx)))
noncomputable abbrev rE(sc:D)(cell many:Int)(ps:List (Int×Int))(gate:Int)(L:List Int)(u6 u8:Sl):Ev:=lE sc (.val (.int cell)) many ps gate (.dk (dkI (zHA ps gate L) L)) (.own false (.lst (opL many.toNat (hO ps gate)))) u6 (.val (.tup (opL many.toNat (hO ps gate)))) u8
theorem zTR(A:All ps gate L){q h:Int}(I:IsH ps gate q h):chn ps gate L q=chn ps gate L h++[q]:=(zC5 A).uniq (Srt.snoc A I (zC5 A))
theorem zQ0(R:Rg many ps)(h0:0<=gate)(h1:gate<many)(A:All ps gate L)(q:Int):(chn ps gate L q).length<=many.toNat:=by
 have:=(zC5 (p:=q) A).pm.length_eq
 have h2:=List.length_filter_le (λc=>decide (Dom ps gate c q)) L
 have h3:=zIP R h0 h1 A
 unfold mu at this;lia
theorem yAN{u8:Sl}{p:Int}(A:All ps gate L)(R:Rg many ps)(h0:0<=gate)(h1:gate<many)(hm:many<=24)(hp:Rc ps [] gate p) :
  ∃u8',yCG (rE sc cell many ps gate L (.val (.int p)) u8)=.ok (.nx (rE sc cell many ps gate L (.val (.int p)) u8')):=by
 obtain⟨E',e,r,rfl,hr⟩:=zJ3 (t:=zBY [8] (zEZ (gB (g2 neD (g2 ixD (zAB 8) (g1 zGB (gC (.int 1)))) (zAB 3))) (gB (g2 leD (gN zE3 [(zAB 8)]) (g2 ixD (zAB 2) (gC (.int 0)))))))
  (g:=zFM (zB3 8 zIQ [(zD8 [8] (g2 ixD (zAB 7) (g2 ixD (zAB 8) (g1 zGB (gC (.int 1))))))]))
  (λn E=>∃r q,E=rE sc cell many ps gate L (.val (.int p)) (.own false (.lst ((r++[q]).map D.int)))/\Rc ps [] gate q/\chn ps gate L q++r.reverse=chn ps gate L p/\n=(chn ps gate L q).length)
  (λE=>∃r:List Int,E=rE sc cell many ps gate L (.val (.int p)) (.own false (.lst (r.map D.int)))/\r.reverse=chn ps gate L p)
  (λn E hP=>by
   obtain⟨r,q,rfl,hq,hc,rfl⟩:=hP
   obtain⟨E0,hE0⟩:∃E0,E0=zDO [8] (rE sc cell many ps gate L (.val (.int p)) (.own false (.lst ((r++[q]).map D.int)))):=⟨_,rfl⟩
   have last:ixD (.lst ((r++[q]).map D.int)) (.int (-1))=.ok (.int q):=zZ8 (by rw[List.map_append];exact zRM _ _)
   have lst:g2 ixD (zAB 8) (g1 zGB (gC (.int 1))) E0=.ok (.int q,E0):=by rw[hE0];exact zAL (x:=.lst ((r++[q]).map D.int)) (y:=.int (-1)) rfl rfl last
   have t1:gB (g2 neD (g2 ixD (zAB 8) (g1 zGB (gC (.int 1)))) (zAB 3)) E0=.ok (decide (q≠gate),E0):=zB4 (zAL lst (y:=.int gate) (by rw[hE0];rfl) (zH8 _ _))
   have hlen:=congrArg List.length hc
   rw[List.length_append,List.length_reverse] at hlen
   have hcl:=zQ0 R h0 h1 A p
   by_cases e:q=gate
   ·rw[decide_eq_false (λz=>z e)] at t1
    refine .inl ⟨_,zBD (E':=E0) (by rw[<-hE0];exact zMU t1),r++[q],rfl,?_⟩
    rw[<-hc,e,(zC5 A).uniq (Srt.gate A (e▸hq))];simp
   ·rw[decide_eq_true e] at t1
    obtain⟨h,I⟩:=zKI A hq e
    obtain⟨q0,q1⟩:=hq.range R h0 h1
    have hcs:=zTR A I
    rw[hcs,List.length_append,List.length_singleton] at hlen
    have t2:gB (g2 leD (gN zE3 [(zAB 8)]) (g2 ixD (zAB 2) (gC (.int 0)))) E0=.ok (true,E0):=by
     refine zB4 (zAL (x:=.int ((r.length+1:Nat):Int)) (zCR (zA6 (d:=.lst ((r++[q]).map D.int)) (by rw[hE0];rfl)) (zWT (by simp))) (y:=.int many) (zAL (x:=zB5 many ps) (y:=.int 0) (by rw[hE0];rfl) rfl rfl) ?_)
     exact congrArg (λz=>Out.ok (D.bl z)) (decide_eq_true (by lia))
    have hh:hO ps gate q=some h:=by unfold hO;rw[if_pos hq,zLZ I]
    have bd:zD8 [8] (g2 ixD (zAB 7) (g2 ixD (zAB 8) (g1 zGB (gC (.int 1))))) (rE sc cell many ps gate L (.val (.int p)) (.own false (.lst ((r++[q]).map D.int))))=.ok (.int h,rE sc cell many ps gate L (.val (.int p)) (.own false (.lst ((r++[q]).map D.int)))):=by
     refine zC7 (E':=E0) ?_ rfl
     rw[<-hE0]
     exact zAL (x:=.tup (opL many.toNat (hO ps gate))) (by rw[hE0];rfl) lst (yC8 (by rw[zXL q0 (by lia),hh];rfl))
    refine .inr ⟨_,_,_,zBD (E':=E0) (by rw[<-hE0];exact zFV t1 t2),zIC (zEK (x:=.non) (i:=8) (t:=false) (xs:=(r++[q]).map D.int) (ds':=(r++[q]++[h]).map D.int) rfl (zA6 bd) rfl ?_),?_,r++[q],h,rfl,I.dom.rc,?_,rfl⟩
    ·show few _ (Out.ok (D.non,(r++[q]).map D.int++[.int h]))=_
     rw[zEJ (by rw[List.length_map,List.length_append,List.length_singleton];lia),List.map_append (l₁:=r++[q])];rfl
    ·rw[hcs,List.length_append,List.length_singleton];lia
    ·rw[<-hc,hcs];simp) 100000 (chn ps gate L p).length (rE sc cell many ps gate L (.val (.int p)) (.own false (.lst (([]++[p]).map D.int)))) (by have:=zQ0 R h0 h1 A p;lia) ⟨[],p,rfl,hp,by simp,rfl⟩
 obtain⟨E1,hE1⟩:∃E1,E1=zDO [8] (rE sc cell many ps gate L (.val (.int p)) (.own false (.lst (r.map D.int)))):=⟨_,rfl⟩
 have g1:zZ3 (zAB 8) (g1 zGB (gC (.int 1))) E1=.ok (.lst ((chn ps gate L p).map D.int),E1):=by
  rw[<-hr,List.map_reverse,hE1];rfl
 have g2':g2 ixD (zAB 4) (zAB 6) E1=.ok (.tup ((chn ps gate L p).map D.int),E1):=by
  rw[hE1];exact zAL (x:=.dk (dkI (zHA ps gate L) L)) (y:=.int p) rfl rfl (yAY (zEC ((A.mem p).mpr hp)))
 refine⟨_,zAK (zBN (d:=.lst [.int p]) rfl) (zAK e (zLL (zBD (d:=false) (E':=E1) ?_) rfl))⟩
 rw[<-hE1]
 exact zB4 (zAL (x:=.tup ((chn ps gate L p).map D.int)) (zCR (zA6 g1) rfl) g2' (zMS (Pl.intsT _)))
end
theorem zTS{E:Ev}{d:D}{n:Nat}{φ:Int->Option Int}(h:zAB 7 E=.ok (.tup (opL n φ),E))(hn:n<10000):zDW (zAX (zAB 7)) 1 [] (.nm 0) (zKK (zGC "bool" (zAB 0))) (zAB 0) E=.ok (.lst [],E):=by
 have:=zFU (gi:=zAX (zAB 7)) (k:=1) (js:=[]) (t:=.nm 0) (tt:=zKK (zGC "bool" (zAB 0))) (ge:=zAB 0) (E:=E) (E1:=E) (ds:=opL n φ) (λ_=>[]) (λE=>∃u,E=[u]) (zID h) ⟨_,rfl⟩ (by rw[zQY];exact hn) (λd hd E hE=>by
  obtain⟨u,rfl⟩:=hE
  obtain⟨b,_,rfl⟩:=List.mem_map.mp hd
  refine⟨_,rfl,false,[.val (zC4 (φ b))],zQJ (zQL (d:=zC4 (φ b)) rfl) ?_,.inr ⟨rfl,rfl,_,rfl⟩⟩
  cases φ b<;>rfl) (λEc _=>zLV Ec 1 0 E)
 rw[this];simp
theorem law_true:∀ns:List Int,ns.length<=63->∃b d',m_law [.val (.lst (ns.map D.int))]=.ok (b,.bl true,d'):=by
 intro ns hns
 obtain⟨c,ec⟩:=zXN ns
 obtain⟨sc,hsc⟩:∃sc:D,sc=.lst (ns.map D.int):=⟨_,rfl⟩
 have hcut:(zKJ ns (some 1) (some 8)).length<=63:=by
  unfold zKJ
  rw[List.length_take,List.length_drop];lia
 obtain⟨E',e,u1,u2,u3,u4,u5,u6,u7,u8,rfl⟩:=zCM (gi:=zAX (g2 zC1 (zBM [(zB9 zBR [(zAB 0),(gC (.int 0))])]) (zFP (zAB 0) (some (gC (.int 1))) (some (gC (.int 8)))))) (t:=.nm 1)
  (g:=(zA2 (zCD (.tp [(.nm 2),(.nm 3)]) (zGY zB8 (zGT zBS [(zAB 1),(gC (.int 0))]) [(gC (.int 24))]))
 (zA2 (zCD (.nm 4) (zB9 zBK [(zAB 2),(zAB 3)]))
 (zA2 (zCL 5 (g2 zN3 (zBM [(gC .non)]) (g2 ixD (zAB 2) (gC (.int 0)))))
 (zA2 (zED (zAX (zAB 4)) (.nm 6)
 (zAO 5 (zAB 6) yA1))
 (zA2 (zCD (.nm 7) (zB9 zCV [(zAB 2),(zAB 3)]))
 (zA2 (zE7 (zBY [5] (zT3 (zJL (zKK (zGC "tuple" (zAB 7)))) (zT3 (gB (g2 neD (zAB 7) (gN zMN [(zAB 5)]))) (gB (g2 neD (zDW (zAX (zAB 7)) 1 [] (.nm 0) (zKK (zGC "bool" (zAB 0))) (zAB 0)) (zBM []))))))
 (zF4 (gC (.bl false)))
 gNx)
 (zED (zAX (zAB 4)) (.nm 6) yCG)))))))) (E:=[.val sc,.no,.no,.no,.no,.no,.no,.no,.no]) (E1:=[.val sc,.no,.no,.no,.no,.no,.no,.no,.no]) (ds:=(c::zKJ ns (some 1) (some 8)).map D.int)
  (λi E=>∃u1 u2 u3 u4 u5 u6 u7 u8,E=[.val sc,u1,u2,u3,u4,u5,u6,u7,u8])
  (by
   rw[hsc]
   refine zFW (zAL (x:=.lst [.int c]) (y:=.lst ((zKJ ns (some 1) (some 8)).map D.int)) (zER (zA6 (zB0 (ds:=[.lst (ns.map D.int),.int 0]) rfl ec)) (show 1<10000 by decide)) ?_ ?_)
   ·rw[<-zM6];rfl
   ·exact zZ7 (by rw[List.length_map];show 1+_<10000;lia) rfl) ⟨_,_,_,_,_,_,_,_,rfl⟩
  (λi x E hx hP=>by
   obtain⟨u1,u2,u3,u4,u5,u6,u7,u8,hE⟩:=hP
   subst hE
   rw[List.getElem?_map] at hx
   obtain⟨n,_,rfl⟩:=Option.map_eq_some_iff.mp hx
   refine⟨_,rfl,?_⟩
   obtain⟨w,ew,B⟩:=zW7 n
   obtain⟨many,ps,gate,d',en,N,_,h0,h1,_⟩:=zXK (most:=24) B (by decide) (by decide) (by decide)
   have R:=N.rg'
   have hm:=N.m2
   have hm1:=N.m1
   obtain⟨L,A,et⟩:=zTP R hm h0 h1
   have eh:=zN0 R hm h0 h1
   have s1:zCD (.tp [(.nm 2),(.nm 3)]) (zGY zB8 (zGT zBS [(zAB 1),(gC (.int 0))]) [(gC (.int 24))]) [.val sc,.val (.int n),u2,u3,u4,u5,u6,u7,u8]=.ok (.nx [.val sc,.val (.int n),.val (zB5 many ps),.val (.int gate),u4,u5,u6,u7,u8]) :=
    zBC (zS6 (zS7 (ds:=[.int n,.int 0]) rfl ew) (zA6 (d:=.int 24) rfl) en) rfl
   have s2:zCD (.nm 4) (zB9 zBK [(zAB 2),(zAB 3)]) [.val sc,.val (.int n),.val (zB5 many ps),.val (.int gate),u4,u5,u6,u7,u8]=.ok (.nx (lE sc (.val (.int n)) many ps gate (.dk (dkI (zHA ps gate L) L)) u5 u6 u7 u8)):=zBC (zB0 (ds:=[zB5 many ps,.int gate]) rfl et) rfl
   have s3:zCL 5 (g2 zN3 (zBM [(gC .non)]) (g2 ixD (zAB 2) (gC (.int 0)))) (lE sc (.val (.int n)) many ps gate (.dk (dkI (zHA ps gate L) L)) u5 u6 u7 u8)=.ok (.nx (lE sc (.val (.int n)) many ps gate (.dk (dkI (zHA ps gate L) L)) (.own false (.lst (opL many.toNat λ_=>none))) u6 u7 u8)) :=
    zBN (E':=lE sc (.val (.int n)) many ps gate (.dk (dkI (zHA ps gate L) L)) u5 u6 u7 u8) (zAL (x:=.lst [.non]) (y:=.int many) rfl (zAL (x:=zB5 many ps) (y:=.int 0) rfl rfl rfl) (zQZ (by lia) (by lia)))
   obtain⟨u6',s4⟩:=yAM (sc:=sc) (u1:=.val (.int n)) (u6:=u6) (u7:=u7) (u8:=u8) A R h0 h1 hm
   have s5:zCD (.nm 7) (zB9 zCV [(zAB 2),(zAB 3)]) (lE sc (.val (.int n)) many ps gate (.dk (dkI (zHA ps gate L) L)) (.own false (.lst (opL many.toNat (hO ps gate)))) u6' u7 u8)=.ok (.nx (rE sc n many ps gate L u6' u8)):=zBC (zB0 (ds:=[zB5 many ps,.int gate]) rfl eh) rfl
   obtain⟨E0,hE0⟩:∃E0,E0=zDO [5] (rE sc n many ps gate L u6' u8):=⟨_,rfl⟩
   have g7:zAB 7 E0=.ok (.tup (opL many.toNat (hO ps gate)),E0):=by rw[hE0];rfl
   have t6:zBY [5] (zT3 (zJL (zKK (zGC "tuple" (zAB 7)))) (zT3 (gB (g2 neD (zAB 7) (gN zMN [(zAB 5)]))) (gB (g2 neD (zDW (zAX (zAB 7)) 1 [] (.nm 0) (zKK (zGC "bool" (zAB 0))) (zAB 0)) (zBM []))))) (rE sc n many ps gate L u6' u8)=.ok (false,rE sc n many ps gate L u6' u8):=by
    refine zBD (E':=E0) ?_
    rw[<-hE0]
    refine zZ5 (zQK (b:=true) (zQJ (zQL g7) rfl)) (zZ5 (zB4 (zAL g7 (zCR (zA6 (d:=.lst (opL many.toNat (hO ps gate))) (by rw[hE0];rfl)) rfl) (zMS (Pl.op _ _)))) (zB4 (zAL (zTS (d:=.non) g7 (by lia)) (y:=.lst []) rfl (zLM (Pls.nil 0)))))
   obtain⟨E9,e9,v6,v8,rfl⟩:=zCM (gi:=zAX (zAB 4)) (t:=.nm 6) (g:=yCG) (E:=rE sc n many ps gate L u6' u8) (E1:=rE sc n many ps gate L u6' u8) (ds:=L.map D.int) (λi E=>∃v6 v8,E=rE sc n many ps gate L v6 v8) (zUS rfl) ⟨_,_,rfl⟩ (λi x E hx hP=>by
    obtain⟨v6,v8,rfl⟩:=hP
    rw[List.getElem?_map] at hx
    obtain⟨p,hp,rfl⟩:=Option.map_eq_some_iff.mp hx
    obtain⟨w8,er⟩:=yAN (sc:=sc) (cell:=n) (u8:=v8) A R h0 h1 hm ((A.mem p).mp (List.mem_of_getElem? hp))
    exact⟨_,rfl,_,er,_,_,rfl⟩)
   exact⟨_,zAK s1 (zAK s2 (zAK s3 (zAK s4 (zAK s5 (zAK (zLL t6 rfl) e9))))),_,_,_,_,_,_,_,_,rfl⟩)
 refine⟨false,.non,?_⟩
 rw[<-hsc]
 exact zDH (zAK e (zCA (d:=.bl true) rfl)) rfl
theorem yDA{α:Type}{us:List α}(h:us.length=1):∃a,us=[a]:=List.length_eq_one_iff.mp h
theorem yDB{α:Type}{us:List α}{n:Nat}(h:us.length=n+1):∃a r,us=a::r/\r.length=n:=by
 cases us with
 |nil=>cases h
 |cons a r=>exact⟨a,r,rfl,Nat.succ.inj h⟩
theorem zTT{α:Type}{us:List α}(h:us.length=2):∃a b,us=[a,b]:=by obtain⟨a,r,rfl,k⟩:=yDB (n:=1) h;obtain⟨b,rfl⟩:=yDA k;exact⟨a,b,rfl⟩
theorem yA2{α:Type}{us:List α}(h:us.length=3):∃a b c,us=[a,b,c]:=by obtain⟨a,r,rfl,k⟩:=yDB (n:=2) h;obtain⟨b,c,rfl⟩:=zTT k;exact⟨a,b,c,rfl⟩
theorem all_mk{l:PySem.W.OpenLaw}{w:World}{K:PySem.W.Frag}{h:Heap}{mg:Str->Option Value}{fa f_next_places f__law_cell f__law_well f__law_take f__law_reach f_lanes_away f__law_shuffled f_reached_past f__law_net f_reached f_cut_off f_holders f__law_table f_law:Addr}(X:K.In h)(G:h.Ns mainGlobals mg)(hfa:mg "law"=some (.ref fa))
  {od_next_places an_next_places od__law_cell an__law_cell od__law_well an__law_well od__law_take an__law_take od__law_reach an__law_reach od_lanes_away an_lanes_away od__law_shuffled an__law_shuffled od_reached_past an_reached_past od__law_net an__law_net od_reached an_reached od_cut_off an_cut_off od_holders an_holders od__law_table an__law_table od_law an_law:Option Addr} {sl_next_places sl__law_cell sl__law_well sl__law_take sl__law_reach sl_lanes_away sl__law_shuffled sl_reached_past sl__law_net sl_reached sl_cut_off sl_holders sl__law_table sl_law:Array (Option Value)} {oc_next_places kV_next_places dc_next_places pm_next_places cd_next_places ct_next_places oc__law_cell kV__law_cell dc__law_cell pm__law_cell cd__law_cell ct__law_cell oc__law_well kV__law_well dc__law_well pm__law_well cd__law_well ct__law_well oc__law_take kV__law_take dc__law_take pm__law_take cd__law_take ct__law_take oc__law_reach kV__law_reach dc__law_reach pm__law_reach cd__law_reach ct__law_reach oc_lanes_away kV_lanes_away dc_lanes_away pm_lanes_away cd_lanes_away ct_lanes_away oc__law_shuffled kV__law_shuffled dc__law_shuffled pm__law_shuffled cd__law_shuffled ct__law_shuffled oc_reached_past kV_reached_past dc_reached_past pm_reached_past cd_reached_past ct_reached_past oc__law_net kV__law_net dc__law_net pm__law_net cd__law_net ct__law_net oc_reached kV_reached dc_reached pm_reached cd_reached ct_reached oc_cut_off kV_cut_off dc_cut_off pm_cut_off cd_cut_off ct_cut_off oc_holders kV_holders dc_holders pm_holders ct_holders oo_holders oc__law_table kV__law_table dc__law_table pm__law_table ct__law_table oo__law_table oc_law kV_law dc_law pm_law cd_law ct_law:Value}
  (a_next_places:PySem.W.nsIn K mainGlobals "next_places"=some (some (.ref f_next_places))) (l_next_places:K.lookup f_next_places=some ⟨oc_next_places,od_next_places,.func (PySem.W.fnOf "next_places" "next_places" (zA4 zA5) (zAV zA5) (zAJ zA5) .none kV_next_places dc_next_places pm_next_places an_next_places cd_next_places ct_next_places),sl_next_places⟩) (c_next_places:PySem.W.codeIn K cd_next_places "next_places"=true) (k_next_places:PySem.W.keepIn K (.ref f_next_places)=true)
  (a__law_cell:PySem.W.nsIn K mainGlobals "_law_cell"=some (some (.ref f__law_cell))) (l__law_cell:K.lookup f__law_cell=some ⟨oc__law_cell,od__law_cell,.func (PySem.W.fnOf "_law_cell" "_law_cell" (zA4 zBO) (zAV zBO) (zAJ zBO) .none kV__law_cell dc__law_cell pm__law_cell an__law_cell cd__law_cell ct__law_cell),sl__law_cell⟩) (c__law_cell:PySem.W.codeIn K cd__law_cell "_law_cell"=true) (k__law_cell:PySem.W.keepIn K (.ref f__law_cell)=true)
  (a__law_well:PySem.W.nsIn K mainGlobals "_law_well"=some (some (.ref f__law_well))) (l__law_well:K.lookup f__law_well=some ⟨oc__law_well,od__law_well,.func (PySem.W.fnOf "_law_well" "_law_well" (zA4 zBP) (zAV zBP) (zAJ zBP) .none kV__law_well dc__law_well pm__law_well an__law_well cd__law_well ct__law_well),sl__law_well⟩) (c__law_well:PySem.W.codeIn K cd__law_well "_law_well"=true) (k__law_well:PySem.W.keepIn K (.ref f__law_well)=true)
  (a__law_take:PySem.W.nsIn K mainGlobals "_law_take"=some (some (.ref f__law_take))) (l__law_take:K.lookup f__law_take=some ⟨oc__law_take,od__law_take,.func (PySem.W.fnOf "_law_take" "_law_take" (zA4 zBQ) (zAV zBQ) (zAJ zBQ) .none kV__law_take dc__law_take pm__law_take an__law_take cd__law_take ct__law_take),sl__law_take⟩) (c__law_take:PySem.W.codeIn K cd__law_take "_law_take"=true) (k__law_take:PySem.W.keepIn K (.ref f__law_take)=true)
  (a__law_reach:PySem.W.nsIn K mainGlobals "_law_reach"=some (some (.ref f__law_reach))) (l__law_reach:K.lookup f__law_reach=some ⟨oc__law_reach,od__law_reach,.func (PySem.W.fnOf "_law_reach" "_law_reach" (zA4 zBG) (zAV zBG) (zAJ zBG) .none kV__law_reach dc__law_reach pm__law_reach an__law_reach cd__law_reach ct__law_reach),sl__law_reach⟩) (c__law_reach:PySem.W.codeIn K cd__law_reach "_law_reach"=true) (k__law_reach:PySem.W.keepIn K (.ref f__law_reach)=true)
  (a_lanes_away:PySem.W.nsIn K mainGlobals "lanes_away"=some (some (.ref f_lanes_away))) (l_lanes_away:K.lookup f_lanes_away=some ⟨oc_lanes_away,od_lanes_away,.func (PySem.W.fnOf "lanes_away" "lanes_away" (zA4 zBH) (zAV zBH) (zAJ zBH) .none kV_lanes_away dc_lanes_away pm_lanes_away an_lanes_away cd_lanes_away ct_lanes_away),sl_lanes_away⟩) (c_lanes_away:PySem.W.codeIn K cd_lanes_away "lanes_away"=true) (k_lanes_away:PySem.W.keepIn K (.ref f_lanes_away)=true)
  (a__law_shuffled:PySem.W.nsIn K mainGlobals "_law_shuffled"=some (some (.ref f__law_shuffled))) (l__law_shuffled:K.lookup f__law_shuffled=some ⟨oc__law_shuffled,od__law_shuffled,.func (PySem.W.fnOf "_law_shuffled" "_law_shuffled" (zA4 zA3) (zAV zA3) (zAJ zA3) .none kV__law_shuffled dc__law_shuffled pm__law_shuffled an__law_shuffled cd__law_shuffled ct__law_shuffled),sl__law_shuffled⟩) (c__law_shuffled:PySem.W.codeIn K cd__law_shuffled "_law_shuffled"=true) (k__law_shuffled:PySem.W.keepIn K (.ref f__law_shuffled)=true)
  (a_reached_past:PySem.W.nsIn K mainGlobals "reached_past"=some (some (.ref f_reached_past))) (l_reached_past:K.lookup f_reached_past=some ⟨oc_reached_past,od_reached_past,.func (PySem.W.fnOf "reached_past" "reached_past" (zA4 zA7) (zAV zA7) (zAJ zA7) .none kV_reached_past dc_reached_past pm_reached_past an_reached_past cd_reached_past ct_reached_past),sl_reached_past⟩) (c_reached_past:PySem.W.codeIn K cd_reached_past "reached_past"=true) (k_reached_past:PySem.W.keepIn K (.ref f_reached_past)=true)
  (a__law_net:PySem.W.nsIn K mainGlobals "_law_net"=some (some (.ref f__law_net))) (l__law_net:K.lookup f__law_net=some ⟨oc__law_net,od__law_net,.func (PySem.W.fnOf "_law_net" "_law_net" (zA4 zB7) (zAV zB7) (zAJ zB7) .none kV__law_net dc__law_net pm__law_net an__law_net cd__law_net ct__law_net),sl__law_net⟩) (c__law_net:PySem.W.codeIn K cd__law_net "_law_net"=true) (k__law_net:PySem.W.keepIn K (.ref f__law_net)=true)
  (a_reached:PySem.W.nsIn K mainGlobals "reached"=some (some (.ref f_reached))) (l_reached:K.lookup f_reached=some ⟨oc_reached,od_reached,.func (PySem.W.fnOf "reached" "reached" (zA4 zCS) (zAV zCS) (zAJ zCS) .none kV_reached dc_reached pm_reached an_reached cd_reached ct_reached),sl_reached⟩) (c_reached:PySem.W.codeIn K cd_reached "reached"=true) (k_reached:PySem.W.keepIn K (.ref f_reached)=true)
  (a_cut_off:PySem.W.nsIn K mainGlobals "cut_off"=some (some (.ref f_cut_off))) (l_cut_off:K.lookup f_cut_off=some ⟨oc_cut_off,od_cut_off,.func (PySem.W.fnOf "cut_off" "cut_off" (zA4 zCT) (zAV zCT) (zAJ zCT) .none kV_cut_off dc_cut_off pm_cut_off an_cut_off cd_cut_off ct_cut_off),sl_cut_off⟩) (c_cut_off:PySem.W.codeIn K cd_cut_off "cut_off"=true) (k_cut_off:PySem.W.keepIn K (.ref f_cut_off)=true)
  {cc_holders T_holders:Addr} {vs_holders:Array Value} {oe_holders:Option Addr} {sm_holders:Array (Option Value)}
  (a_holders:PySem.W.nsIn K mainGlobals "holders"=some (some (.ref f_holders))) (l_holders:K.lookup f_holders=some ⟨oc_holders,od_holders,.func (PySem.W.fnOf "holders" "holders" (zA4 zCU) (zAV zCU) (zAJ zCU) .none kV_holders dc_holders pm_holders an_holders (.ref cc_holders) ct_holders),sl_holders⟩) (c_holders:PySem.W.codeIn K (.ref cc_holders) "holders"=true) (k_holders:PySem.W.keepIn K (.ref f_holders)=true) (n_holders:K.lookup cc_holders=some ⟨oo_holders,oe_holders,.fields vs_holders,sm_holders⟩) (r_holders:vs_holders[11]?=some (.ref T_holders))
  {cc__law_table T__law_table:Addr} {vs__law_table:Array Value} {oe__law_table:Option Addr} {sm__law_table:Array (Option Value)}
  (a__law_table:PySem.W.nsIn K mainGlobals "_law_table"=some (some (.ref f__law_table))) (l__law_table:K.lookup f__law_table=some ⟨oc__law_table,od__law_table,.func (PySem.W.fnOf "_law_table" "_law_table" (zA4 zBI) (zAV zBI) (zAJ zBI) .none kV__law_table dc__law_table pm__law_table an__law_table (.ref cc__law_table) ct__law_table),sl__law_table⟩) (c__law_table:PySem.W.codeIn K (.ref cc__law_table) "_law_table"=true) (k__law_table:PySem.W.keepIn K (.ref f__law_table)=true) (n__law_table:K.lookup cc__law_table=some ⟨oo__law_table,oe__law_table,.fields vs__law_table,sm__law_table⟩) (r__law_table:vs__law_table[11]?=some (.ref T__law_table))
  (a_law:PySem.W.nsIn K mainGlobals "law"=some (some (.ref f_law))) (l_law:K.lookup f_law=some ⟨oc_law,od_law,.func (PySem.W.fnOf "law" "law" (zA4 zIF) (zAV zIF) (zAJ zIF) .none kV_law dc_law pm_law an_law cd_law ct_law),sl_law⟩) (c_law:PySem.W.codeIn K cd_law "law"=true) (k_law:PySem.W.keepIn K (.ref f_law)=true)
  (z_bool:PySem.W.nsIn K mainGlobals "bool"=some none) (z_enumerate:PySem.W.nsIn K mainGlobals "enumerate"=some none) (z_isinstance:PySem.W.nsIn K mainGlobals "isinstance"=some none) (z_len:PySem.W.nsIn K mainGlobals "len"=some none) (z_list:PySem.W.nsIn K mainGlobals "list"=some none) (z_max:PySem.W.nsIn K mainGlobals "max"=some none) (z_min:PySem.W.nsIn K mainGlobals "min"=some none) (z_range:PySem.W.nsIn K mainGlobals "range"=some none) (z_sorted:PySem.W.nsIn K mainGlobals "sorted"=some none) (z_tuple:PySem.W.nsIn K mainGlobals "tuple"=some none) :
  ∃fd:FuncData,(∀(s:Shared) (v:Value),BindsTo s fd ⟨[v],[]⟩ [("script",v)])/\∀base:Heap,K.In base->base.Ns mainGlobals mg->CB K base->FnOk l.prog w K mg base CX0 7 fa fd ["script"] (spV K 1 m_law):=by
 have e:=hfa.symm.trans (PySem.W.mg_of X G a_law)
 cases e
 have T:Bt mg:=⟨PySem.W.mg_none_of X G z_bool,PySem.W.mg_none_of X G z_enumerate,PySem.W.mg_none_of X G z_isinstance,PySem.W.mg_none_of X G z_len,PySem.W.mg_none_of X G z_list,PySem.W.mg_none_of X G z_max,PySem.W.mg_none_of X G z_min,PySem.W.mg_none_of X G z_range,PySem.W.mg_none_of X G z_sorted,PySem.W.mg_none_of X G z_tuple⟩
 have F_next_places:=zCE (st:=zA5) l_next_places c_next_places k_next_places
 have F__law_cell:=zCE (st:=zBO) l__law_cell c__law_cell k__law_cell
 have F__law_well:=zCE (st:=zBP) l__law_well c__law_well k__law_well
 have F__law_take:=zCE (st:=zBQ) l__law_take c__law_take k__law_take
 have F__law_reach:=zCE (st:=zBG) l__law_reach c__law_reach k__law_reach
 have F_lanes_away:=zCE (st:=zBH) l_lanes_away c_lanes_away k_lanes_away
 have F__law_shuffled:=zCE (st:=zA3) l__law_shuffled c__law_shuffled k__law_shuffled
 have F_reached_past:=zCE (st:=zA7) l_reached_past c_reached_past k_reached_past
 have F__law_net:=zCE (st:=zB7) l__law_net c__law_net k__law_net
 have F_reached:=zCE (st:=zCS) l_reached c_reached k_reached
 have F_cut_off:=zCE (st:=zCT) l_cut_off c_cut_off k_cut_off
 have F_holders:=zCE (st:=zCU) l_holders c_holders k_holders
 have F__law_table:=zCE (st:=zBI) l__law_table c__law_table k__law_table
 have F_law:=zCE (st:=zIF) l_law c_law k_law
 have b_next_places:=F_next_places.binds (ps:=["net"]) λ_ _ _ _ _ _ us hl=>by
  obtain⟨a0,rfl⟩:=yDA hl
  rfl
 have b__law_cell:=F__law_cell.binds (ps:=["script","k"]) λ_ _ _ _ _ _ us hl=>by
  obtain⟨a0,a1,rfl⟩:=zTT hl
  rfl
 have b__law_well:=F__law_well.binds (ps:=["cell","turn"]) λ_ _ _ _ _ _ us hl=>by
  obtain⟨a0,a1,rfl⟩:=zTT hl
  rfl
 have b__law_take:=F__law_take.binds (ps:=["bag","many"]) λ_ _ _ _ _ _ us hl=>by
  obtain⟨a0,a1,rfl⟩:=zTT hl
  rfl
 have b__law_reach:=F__law_reach.binds (ps:=["net","gate","closed"]) λ_ _ _ _ _ _ us hl=>by
  obtain⟨a0,a1,a2,rfl⟩:=yA2 hl
  rfl
 have b_lanes_away:=F_lanes_away.binds (ps:=["net","start","closed"]) λ_ _ _ _ _ _ us hl=>by
  obtain⟨a0,a1,a2,rfl⟩:=yA2 hl
  rfl
 have b__law_shuffled:=F__law_shuffled.binds (ps:=["bag","some"]) λ_ _ _ _ _ _ us hl=>by
  obtain⟨a0,a1,rfl⟩:=zTT hl
  rfl
 have b_reached_past:=F_reached_past.binds (ps:=["net","gate","closed"]) λ_ _ _ _ _ _ us hl=>by
  obtain⟨a0,a1,a2,rfl⟩:=yA2 hl
  rfl
 have b__law_net:=F__law_net.binds (ps:=["bag","most"]) λ_ _ _ _ _ _ us hl=>by
  obtain⟨a0,a1,rfl⟩:=zTT hl
  rfl
 have b_reached:=F_reached.binds (ps:=["net","gate"]) λ_ _ _ _ _ _ us hl=>by
  obtain⟨a0,a1,rfl⟩:=zTT hl
  rfl
 have b_cut_off:=F_cut_off.binds (ps:=["net","gate","place"]) λ_ _ _ _ _ _ us hl=>by
  obtain⟨a0,a1,a2,rfl⟩:=yA2 hl
  rfl
 have b_holders:=F_holders.binds (ps:=["net","gate"]) λ_ _ _ _ _ _ us hl=>by
  obtain⟨a0,a1,rfl⟩:=zTT hl
  rfl
 have b__law_table:=F__law_table.binds (ps:=["net","gate"]) λ_ _ _ _ _ _ us hl=>by
  obtain⟨a0,a1,rfl⟩:=zTT hl
  rfl
 refine⟨PySem.W.fnOf "law" "law" (zA4 zIF) (zAV zIF) (zAJ zIF) .none kV_law dc_law pm_law an_law cd_law ct_law,λs v=>.of_eq rfl,λbase _ _ cb=>?_⟩
 have tb_holders:=tabIn_of a_holders l_holders rfl n_holders r_holders
 have tb__law_table:=tabIn_of a__law_table l__law_table rfl n__law_table r__law_table
 have q_next_places:=Fun.cal F_next_places (zGF (P:=l.prog) (w:=w) (base:=base) F_next_places T ) (PySem.W.mg_of X G a_next_places) b_next_places
 have q__law_cell:=Fun.cal F__law_cell (zJ7 (P:=l.prog) (w:=w) (base:=base) F__law_cell T ) (PySem.W.mg_of X G a__law_cell) b__law_cell
 have q__law_well:=Fun.cal F__law_well (zJ8 (P:=l.prog) (w:=w) (base:=base) F__law_well T ) (PySem.W.mg_of X G a__law_well) b__law_well
 have q__law_take:=Fun.cal F__law_take (zJ9 (P:=l.prog) (w:=w) (base:=base) F__law_take T ) (PySem.W.mg_of X G a__law_take) b__law_take
 have q__law_reach:=Fun.cal F__law_reach (zIG (P:=l.prog) (w:=w) (base:=base) F__law_reach T ) (PySem.W.mg_of X G a__law_reach) b__law_reach
 have q_lanes_away:=Fun.cal F_lanes_away (zIH (P:=l.prog) (w:=w) (base:=base) F_lanes_away T q_next_places) (PySem.W.mg_of X G a_lanes_away) b_lanes_away
 have q__law_shuffled:=Fun.cal F__law_shuffled (zE5 (P:=l.prog) (w:=w) (base:=base) F__law_shuffled T q__law_take) (PySem.W.mg_of X G a__law_shuffled) b__law_shuffled
 have q_reached_past:=Fun.cal F_reached_past (zF2 (P:=l.prog) (w:=w) (base:=base) F_reached_past T q_lanes_away) (PySem.W.mg_of X G a_reached_past) b_reached_past
 have q__law_net:=Fun.cal F__law_net (zLT (P:=l.prog) (w:=w) (base:=base) F__law_net T q__law_take q__law_shuffled) (PySem.W.mg_of X G a__law_net) b__law_net
 have q_reached:=Fun.cal F_reached (zNW (P:=l.prog) (w:=w) (base:=base) F_reached T q_reached_past) (PySem.W.mg_of X G a_reached) b_reached
 have q_cut_off:=Fun.cal F_cut_off (zNX (P:=l.prog) (w:=w) (base:=base) F_cut_off T q_reached q_reached_past) (PySem.W.mg_of X G a_cut_off) b_cut_off
 have q_holders:=Fun.cal F_holders (zNY (P:=l.prog) (w:=w) (base:=base) F_holders T rfl (cb "holders" (by decide +kernel) _ _ tb_holders) ⟨"holders",_,by decide +kernel,tb_holders,rfl⟩ q_cut_off q_reached) (PySem.W.mg_of X G a_holders) b_holders
 have q__law_table:=Fun.cal F__law_table (zII (P:=l.prog) (w:=w) (base:=base) F__law_table T rfl (cb "_law_table" (by decide +kernel) _ _ tb__law_table) ⟨"_law_table",_,by decide +kernel,tb__law_table,rfl⟩ q__law_reach) (PySem.W.mg_of X G a__law_table) b__law_table
 exact yAD F_law T q__law_net q__law_table q_holders q__law_cell q__law_well
end My
open PySem PySem.W PyProof.Rows
set_option maxRecDepth 100000 in
set_option maxHeartbeats 0 in
theorem PySem.Challenge.cw_waymusts_k06_holders_hang_together_holds : PySem.Challenge.rw_waymusts_k06_holders_hang_together.Holds := by
 w_on;o_law;k_head;(case hw=>w_witness2)
 k_fill
 refine L2.walk_v (l:=PySem.Challenge.rw_waymusts_k06_holders_hang_together) (m:=My.m_law) (lv:=7) rfl rfl ⟨rfl,by decide,by decide⟩ (λw h Y=>PySem.W.km_in_of Y) ?tK My.law_true ?F
 case tK =>
  intro w
  refine' L2.Tabs.of ?h1 ?h2 ?h3 ?h4 ?ap
  (case h1=>refine' L2.TabE.tab (L2.tabIn_of ?a ?l ?e ?m ?r) ?o ?d;(case a=>k_is);(case l=>k_is);(case e=>exact rfl);(case m=>k_is);(case r=>exact rfl);(case o=>kernel_rfl);(case d=>exact rfl))
  (case h2=>refine' L2.TabE.tab (L2.tabIn_of ?a ?l ?e ?m ?r) ?o ?d;(case a=>k_is);(case l=>k_is);(case e=>exact rfl);(case m=>k_is);(case r=>exact rfl);(case o=>kernel_rfl);(case d=>exact rfl))
  (case h3=>refine' .no ?z;(case z=>k_is))
  (case h4=>refine' .no ?z;(case z=>k_is))
  (case ap=>decide)
 case F =>
  intro w mg fa h KX G hmg
  refine' My.all_mk KX G hmg ?a_next_places ?l_next_places ?c_next_places ?k_next_places ?a__law_cell ?l__law_cell ?c__law_cell ?k__law_cell ?a__law_well ?l__law_well ?c__law_well ?k__law_well ?a__law_take ?l__law_take ?c__law_take ?k__law_take ?a__law_reach ?l__law_reach ?c__law_reach ?k__law_reach ?a_lanes_away ?l_lanes_away ?c_lanes_away ?k_lanes_away ?a__law_shuffled ?l__law_shuffled ?c__law_shuffled ?k__law_shuffled ?a_reached_past ?l_reached_past ?c_reached_past ?k_reached_past ?a__law_net ?l__law_net ?c__law_net ?k__law_net ?a_reached ?l_reached ?c_reached ?k_reached ?a_cut_off ?l_cut_off ?c_cut_off ?k_cut_off ?a_holders ?l_holders ?c_holders ?k_holders ?n_holders ?r_holders ?a__law_table ?l__law_table ?c__law_table ?k__law_table ?n__law_table ?r__law_table ?a_law ?l_law ?c_law ?k_law ?z_bool ?z_enumerate ?z_isinstance ?z_len ?z_list ?z_max ?z_min ?z_range ?z_sorted ?z_tuple
  (case a_next_places=>k_is);(case l_next_places=>k_is);(case c_next_places=>k_is);(case k_next_places=>k_is)
  (case a__law_cell=>k_is);(case l__law_cell=>k_is);(case c__law_cell=>k_is);(case k__law_cell=>k_is)
  (case a__law_well=>k_is);(case l__law_well=>k_is);(case c__law_well=>k_is);(case k__law_well=>k_is)
  (case a__law_take=>k_is);(case l__law_take=>k_is);(case c__law_take=>k_is);(case k__law_take=>k_is)
  (case a__law_reach=>k_is);(case l__law_reach=>k_is);(case c__law_reach=>k_is);(case k__law_reach=>k_is)
  (case a_lanes_away=>k_is);(case l_lanes_away=>k_is);(case c_lanes_away=>k_is);(case k_lanes_away=>k_is)
  (case a__law_shuffled=>k_is);(case l__law_shuffled=>k_is);(case c__law_shuffled=>k_is);(case k__law_shuffled=>k_is)
  (case a_reached_past=>k_is);(case l_reached_past=>k_is);(case c_reached_past=>k_is);(case k_reached_past=>k_is)
  (case a__law_net=>k_is);(case l__law_net=>k_is);(case c__law_net=>k_is);(case k__law_net=>k_is)
  (case a_reached=>k_is);(case l_reached=>k_is);(case c_reached=>k_is);(case k_reached=>k_is)
  (case a_cut_off=>k_is);(case l_cut_off=>k_is);(case c_cut_off=>k_is);(case k_cut_off=>k_is)
  (case a_holders=>k_is);(case l_holders=>k_is);(case c_holders=>k_is);(case k_holders=>k_is)
  (case n_holders=>k_is);(case r_holders=>exact rfl);(case a__law_table=>k_is);(case l__law_table=>k_is)
  (case c__law_table=>k_is);(case k__law_table=>k_is);(case n__law_table=>k_is);(case r__law_table=>exact rfl)
  (case a_law=>k_is);(case l_law=>k_is);(case c_law=>k_is);(case k_law=>k_is)
  (case z_bool=>k_is);(case z_enumerate=>k_is);(case z_isinstance=>k_is);(case z_len=>k_is)
  (case z_list=>k_is);(case z_max=>k_is);(case z_min=>k_is);(case z_range=>k_is)
  (case z_sorted=>k_is);(case z_tuple=>k_is)
