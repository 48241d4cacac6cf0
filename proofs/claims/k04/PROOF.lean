import PyProof.Rows.All
import Wide.All
import OpenK.AllK
import Wide.FinOn
import Lean
import PyProof.EqAt
import PyProof.EqKinds
import PyProof.TupleCall
import PyProof.Rows.SortRuns
import PyProof.DictCompW
import PySem.Challenge.RW_waymusts_k04_reached_and_turned
set_option autoImplicit false
set_option linter.all false
set_option Elab.async false
set_option maxRecDepth 100000
set_option maxHeartbeats 8000000
namespace L2
open PySem PySem.Spec PyProof.Rows
noncomputable abbrev Key:=Sum Int Str
noncomputable def keyIs:Key→Value→Bool
 | .inl k,v=>Value.isInt k v
 | .inr x,v=>Value.isStrOf x v
noncomputable def keyH (w:World):Key→Int
 | .inl k=>hashInt k
 | .inr x=>hashStr w x
theorem zAP:∀ {k:Key} {v:Value},keyIs k v=true→(∃ i t,k=Sum.inl i∧v=Value.int i t)∨(∃ x t,k=Sum.inr x∧v=Value.str x t)
 | .inl i,v,h=>by
  obtain ⟨t,e⟩:=Value.isInt_shape (k:=i) (v:=v) h
  exact .inl ⟨i,t,rfl,e⟩
 | .inr x,v,h=>by
  obtain ⟨t,e⟩:=Value.isStrOf_shape (x:=x) (v:=v) h
  exact .inr ⟨x,t,rfl,e⟩
theorem zKL (i:Int) (t:Tok):keyIs (.inl i) (.int i t)=true:=by simp [keyIs,Value.isInt]
theorem zKM (x:Str) (t:Tok):keyIs (.inr x) (.str x t)=true:=by simp [keyIs,Value.isStrOf]
theorem zRP (a b:Int):decide ((Sum.inl a:Key)=Sum.inl b)=(a == b):=by
 by_cases e:a=b
 ·subst e; simp
 ·have h:¬ (Sum.inl a:Key)=Sum.inl b:=fun q=>e (Sum.inl.inj q)
  rw [decide_eq_false h]
  exact (beq_eq_false_iff_ne.mpr e).symm
theorem zRQ (a b:Str):decide ((Sum.inr a:Key)=Sum.inr b)=decide (a=b):=by
 by_cases e:a=b
 ·subst e; simp
 ·have h:¬ (Sum.inr a:Key)=Sum.inr b:=fun q=>e (Sum.inr.inj q)
  rw [decide_eq_false h,decide_eq_false e]
theorem zRR (a:Int) (b:Str):decide ((Sum.inl a:Key)=Sum.inr b)=false:=decide_eq_false (fun q=>nomatch q)
theorem zRS (a:Str) (b:Int):decide ((Sum.inr a:Key)=Sum.inl b)=false:=decide_eq_false (fun q=>nomatch q)
noncomputable def zAT (prog:Program) (w:World):PySem.KeyKind prog w Key where
 is:=keyIs
 hash:=keyH w
 inj:=fun v a b ha hb=>by
  rcases zAP ha with ⟨i,t,rfl,rfl⟩ | ⟨x,t,rfl,rfl⟩
  ·rcases zAP hb with ⟨j,u,rfl,e⟩ | ⟨y,u,rfl,e⟩
   ·injection e with e1 _; rw [e1]
   ·exact nomatch e
  ·rcases zAP hb with ⟨j,u,rfl,e⟩ | ⟨y,u,rfl,e⟩
   ·exact nomatch e
   ·injection e with e1 _; rw [e1]
 byValue:=fun k v h=>by
  rcases zAP h with ⟨i,t,rfl,rfl⟩ | ⟨x,t,rfl,rfl⟩ <;> rfl
 pyHash:=fun hv h=>by
  rcases zAP hv with ⟨i,t,rfl,rfl⟩ | ⟨x,t,rfl,rfl⟩
  ·exact wpAny_pyHash_int h
  ·exact wpAny_pyHash_str h
 eqBool:=fun hu hv h=>by
  rcases zAP hu with ⟨i,t,rfl,rfl⟩ | ⟨x,t,rfl,rfl⟩
  ·rcases zAP hv with ⟨j,u,rfl,rfl⟩ | ⟨y,u,rfl,rfl⟩
   ·rw [zRP] at h; exact wpAny_eqBool_int h
   ·rw [zRR] at h; exact SeqAt.EqAt.int_str i t y u _ _ _ _ h
  ·rcases zAP hv with ⟨j,u,rfl,rfl⟩ | ⟨y,u,rfl,rfl⟩
   ·rw [zRS] at h; exact SeqAt.EqAt.str_int x t j u _ _ _ _ h
   ·rw [zRQ] at h; exact wpAny_eqBool_str h
 «strs»:=fun k x t v h=>by
  rcases zAP h with ⟨i,u,rfl,e⟩ | ⟨y,u,rfl,e⟩
  ·exact nomatch e
  ·injection e with e1 _
   subst e1
   cases v <;> rfl
theorem zE1 (prog:Program) (w:World) (k:Key) (v:Value):(zAT prog w).is k v=keyIs k v:=rfl
theorem zHW (prog:Program) (w:World) (i:Int) (t:Tok):(zAT prog w).is (.inl i) (.int i t)=true:=zKL i t
theorem zHX (prog:Program) (w:World) (x:Str) (t:Tok):(zAT prog w).is (.inr x) (.str x t)=true:=zKM x t
end L2
namespace L2
open PySem PySem.Spec PyProof.Rows
inductive V where
 | non | bl (b:Bool) | int (i:Int) | str (x:Str) | byt (b:Array UInt8) | flt (b:UInt64) | ref (a:Addr) | ty (n:String)
 deriving DecidableEq
noncomputable def RelV:V→Value→Prop
 | .non,u=>u=Value.none
 | .bl b,u=>u=Value.bool b
 | .int i,u=>∃ t,u=Value.int i t
 | .str x,u=>∃ t,u=Value.str x t
 | .byt b,u=>∃ t,u=Value.bytes b t
 | .flt b,u=>∃ t,u=Value.float b t
 | .ref a,u=>u=Value.ref a
 | .ty n,u=>u=Value.type n
noncomputable abbrev Vals:List V→List Value→Prop:=Paired RelV
theorem Vals.length {xs:List V} {us:List Value} (r:Vals xs us):xs.length=us.length:=Paired.length r
theorem Vals.get:∀ {xs:List V} {us:List Value} {i:Nat} {x:V},Vals xs us→xs[i]?=some x→∃ u,us[i]?=some u∧RelV x u
 | _,_,_,_,.nil,e=>by simp at e
 | _,_,0,_,.cons r _,e=>by simp at e; subst e; exact ⟨_,rfl,r⟩
 | _,_,i+1,x,.cons _ t,e=>by
  obtain ⟨u,h1,h2⟩:=Vals.get (i:=i) (x:=x) t (by simpa using e)
  exact ⟨u,by simpa using h1,h2⟩
theorem Vals.set {x:V} {u:Value} (r:RelV x u):∀ {xs:List V} {us:List Value} (i:Nat),Vals xs us→Vals (xs.set i x) (us.set i u)
 | _,_,_,.nil=>.nil
 | _,_,0,.cons _ t=>.cons r t
 | _,_,i+1,.cons q t=>.cons q (Vals.set r i t)
theorem Vals.append:∀ {xs ys:List V} {us ws:List Value},Vals xs us→Vals ys ws→Vals (xs++ys) (us++ws)
 | _,_,_,_,.nil,s=>s
 | _,_,_,_,.cons r t,s=>.cons r (Vals.append t s)
theorem Vals.take:∀ {xs:List V} {us:List Value} (n:Nat),Vals xs us→Vals (xs.take n) (us.take n)
 | _,_,0,_=>.nil
 | _,_,_+1,.nil=>.nil
 | _,_,n+1,.cons r t=>.cons r (Vals.take n t)
theorem Vals.drop:∀ {xs:List V} {us:List Value} (n:Nat),Vals xs us→Vals (xs.drop n) (us.drop n)
 | _,_,0,r=>r
 | _,_,_+1,.nil=>.nil
 | _,_,n+1,.cons _ t=>Vals.drop n t
noncomputable def RelO:Option V→Option Value→Prop
 | some v,some u=>RelV v u
 | none,none=>True
 | _,_=>False
noncomputable def KV {κ:Type}:List (κ × V)→List (κ × Value)→Prop:=Paired fun (p:κ × V) (q:κ × Value)=>p.1=q.1∧RelV p.2 q.2
noncomputable def kV:Key→V
 | .inl i=>.int i
 | .inr x=>.str x
inductive HO where
 | lst (xs:List V)
 | tup (xs:List V)
 | dK (kvs:List (Key × V)) | dT (kvs:List (List Key × V))
 | set (S:Int→Bool) (n:Nat)
 | ins (C dx:Addr) (fs:List (Str × V))
 | own (x:Addr)
 | xd (fs:List (Str × V))
 | met (f x:Addr)
 | rng (lo hi:Int)
 | frz (o:Obj) (u:HO)
 | tbl (ps:Array Value)
 | ext (φ:Heap→Prop)
noncomputable abbrev Hp:=Addr→Option HO
noncomputable def upd (H:Hp) (a:Addr) (o:HO):Hp:=fun b=>if b=a then some o else H b
theorem zAC {H:Hp} {a:Addr} {o:HO}:upd H a o a=some o:=by unfold upd; rw [if_pos rfl]
theorem zAF {H:Hp} {a b:Addr} {o:HO} (h:b≠a):upd H a o b=H b:=by unfold upd; rw [if_neg h]
theorem ne_of {H:Hp} {a b:Addr} {o u:HO} (h:H a=some o) (h':H b=some u) (d:o≠u):a≠b:=by
 intro e; subst e; rw [h] at h'; exact d (Option.some.inj h')
theorem zAV {H:Hp} {a b:Addr} {o:HO} (h:H a=some o) (h':H b=none):a≠b:=by
 intro e; subst e; rw [h] at h'; cases h'
noncomputable def IsTupP (h:Heap) (a:Addr) (items:Array Value):Prop:=∃ o,h.get? a=some o∧o.cls=.type "tuple"∧o.dict=none∧∃ n,o.data=.seq items n
theorem IsTupP.isTup {h:Heap} {a:Addr} {items:Array Value} (p:IsTupP h a items):IsTup h a items:=let ⟨o,e,c,_,n⟩:=p; ⟨o,e,c,n⟩
theorem IsTupP.new (h:Heap) (items:Array Value):IsTupP (h.push { cls:=.type "tuple",data:=.seq items }) h.objs.size items:=⟨_,Heap.get?_push_size _ rfl,rfl,rfl,_,rfl⟩
section
variable (P:Program) (w:World)
noncomputable def ObjOk (H:Hp) (h:Heap) (a:Addr):HO→Prop
 | .lst xs=>xs.length≤sizeLine∧∃ (its:List Value) (n:Nat),Vals xs its∧h.get? a=some { cls:=.type "list",data:=.seq its.toArray n }
 | .tup xs=>xs.length≤sizeLine∧∃ its:List Value,Vals xs its∧IsTupP h a its.toArray
 | .dK kvs=>kvs.length≤sizeLine∧(a == sysModules)=false∧∃ vs,KV kvs vs∧h.DictOf (zAT P w) a vs
 | .dT kvs=>kvs.length≤sizeLine∧(a == sysModules)=false∧∃ xs:List (List Key × Addr × Value),
   Paired (fun (p:List Key × V) (q:List Key × Addr × Value)=>p.1=q.1∧H q.2.1=some (.tup (p.1.map kV))∧RelV p.2 q.2.2) kvs xs ∧
   ∃ o es ep,h.get? a=some o∧o.ExactDict∧o.data=.dict es ep∧es.toList=xs.map (entryOfKey (tupleKind (zAT P w)))∧(xs.map (·.1)).Nodup
 | .set S n=>h.SetOf (intKind P w) a S n
 | .ins C dx fs=>H dx=some (.own a)∧fs.length≤1000∧dx≠a∧h.get? a=some (PySem.W.instObj C dx) ∧
   ∃ mA,h.Ns1 dx mA∧(∀ f,RelO (fs.lookup f) (mA f))∧PySem.Within mA (fs.map (·.1))
 | .own _=>∃ o,h.get? a=some o
 | .xd fs=>∃ mA,h.Ns1 a mA∧∀ f,RelO (fs.lookup f) (mA f)
 | .rng lo hi=>∃ t u v,h.get? a=some { cls:=.type "range",data:=.fields #[.int lo t,.int hi u,.int 1 v] }
 | .frz o u=>h.get? a=some o∧ObjOk H h a u
 | .tbl ps=>h.get? a=some { cls:=.none,data:=.fields ps }
 | .met f x=>h.get? a=some (PySem.W.methodObj (.ref f) (.ref x))
 | .ext φ=>φ h∧(∃ o,h.get? a=some o)∧∀ h1 h2:Heap,φ h1→(∀ o,h1.get? a=some o→h2.get? a=some o)→φ h2
noncomputable def HOk (H:Hp) (h:Heap):Prop:=∀ a o,H a=some o→ObjOk P w H h a o
end
section
variable {P:Program} {w:World} {H H':Hp} {h h':Heap} {a:Addr} {o:HO}
theorem ObjOk.lt (x:ObjOk P w H h a o):a<h.objs.size:=by
 cases o with
 | lst xs=>obtain ⟨_,_,_,_,e⟩:=x; exact Heap.lt_size e
 | tup xs=>obtain ⟨_,_,_,p⟩:=x; exact p.isTup.lt
 | dK kvs=>obtain ⟨_,_,_,_,o,_,_,e,_⟩:=x; exact Heap.lt_size e
 | dT kvs=>obtain ⟨_,_,_,_,o,_,_,e,_⟩:=x; exact Heap.lt_size e
 | set S n=>obtain ⟨o,_,_,_,e,_⟩:=x; exact Heap.lt_size e
 | ins C dx fs=>obtain ⟨_,_,_,e,_⟩:=x; exact Heap.lt_size e
 | own y=>obtain ⟨_,e⟩:=x; exact Heap.lt_size e
 | xd fs=>obtain ⟨_,⟨_,_,_,e,_⟩,_⟩:=x; exact Heap.lt_size e
 | rng lo hi=>obtain ⟨_,_,_,e⟩:=x; exact Heap.lt_size e
 | frz ob u=>obtain ⟨e,_⟩:=x; exact Heap.lt_size e
 | tbl ps=>exact Heap.lt_size (show h.get? a=some _ from x)
 | met f y=>exact Heap.lt_size (show h.get? a=some _ from x)
 | ext φ=>obtain ⟨_,⟨_,e⟩,_⟩:=x; exact Heap.lt_size e
theorem Paired.mapP {α β:Type} {F G:α→β→Prop}:∀ {l₁:List α} {l₂:List β},Paired F l₁ l₂→(∀ a b,F a b→G a b)→Paired G l₁ l₂
 | _,_,.nil,_=>.nil
 | _,_,.cons r t,f=>.cons (f _ _ r) (Paired.mapP t f)
theorem ObjOk.stay (x:ObjOk P w H h a o) (k:∀ b u,(b=a∨H b=some (.own a))→h.get? b=some u→h'.get? b=some u)
  (ho:∀ b,H b=some (.own a)→H' b=some (.own a)) (ht:∀ b xs,H b=some (.tup xs)→H' b=some (.tup xs)):ObjOk P w H' h' a o:=by
 induction o with
 | lst xs=>obtain ⟨z,its,n,r,e⟩:=x; exact ⟨z,its,n,r,k _ _ (.inl rfl) e⟩
 | tup xs=>obtain ⟨z,its,r,ob,e,c⟩:=x; exact ⟨z,its,r,ob,k _ _ (.inl rfl) e,c⟩
 | dK kvs=>obtain ⟨z,y,vs,r,ob,es,ep,e,c⟩:=x; exact ⟨z,y,vs,r,ob,es,ep,k _ _ (.inl rfl) e,c⟩
 | dT kvs =>
  obtain ⟨z,y,xs,r,ob,es,ep,e,c⟩:=x
  exact ⟨z,y,xs,Paired.mapP r fun p q z=>⟨z.1,ht _ _ z.2.1,z.2.2⟩,ob,es,ep,k _ _ (.inl rfl) e,c⟩
 | set S n=>obtain ⟨ob,es,ep,t,e,c⟩:=x; exact ⟨ob,es,ep,t,k _ _ (.inl rfl) e,c⟩
 | ins C dx fs =>
  obtain ⟨d,z,ne,e,mA,⟨od,es,ep,e2,c⟩,r⟩:=x
  exact ⟨ho _ d,z,ne,k _ _ (.inl rfl) e,mA,⟨od,es,ep,k _ _ (.inr d) e2,c⟩,r⟩
 | own y=>obtain ⟨ob,e⟩:=x; exact ⟨ob,k _ _ (.inl rfl) e⟩
 | xd fs=>obtain ⟨mA,⟨od,es,ep,e,c⟩,r⟩:=x; exact ⟨mA,⟨od,es,ep,k _ _ (.inl rfl) e,c⟩,r⟩
 | rng lo hi=>obtain ⟨t,u,v,e⟩:=x; exact ⟨t,u,v,k _ _ (.inl rfl) e⟩
 | frz ob u ih=>obtain ⟨e,q⟩:=x; exact ⟨k _ _ (.inl rfl) e,ih q⟩
 | tbl ps =>
  have e:h.get? a=some { cls:=.none,data:=.fields ps }:=x
  show h'.get? a=some { cls:=.none,data:=.fields ps }
  exact k a _ (.inl rfl) e
 | met f y =>
  have e:h.get? a=some (PySem.W.methodObj (.ref f) (.ref y)):=x
  show h'.get? a=some (PySem.W.methodObj (.ref f) (.ref y))
  exact k a _ (.inl rfl) e
 | ext φ=>obtain ⟨p,⟨o,e⟩,st⟩:=x; exact ⟨st _ _ p fun o q=>k _ _ (.inl rfl) q,⟨o,k _ _ (.inl rfl) e⟩,st⟩
theorem HOk.lt (x:HOk P w H h) (e:H a=some o):a<h.objs.size:=(x a o e).lt
theorem HOk.fresh (x:HOk P w H h) (e:h.objs.size≤a):H a=none:=by
 cases q:H a with
 | none=>rfl
 | some u=>exact absurd (Nat.lt_of_lt_of_le (x.lt q) e) (Nat.lt_irrefl _)
theorem HOk.kept (x:HOk P w H h) (k:∀ b u,h.get? b=some u→h'.get? b=some u):HOk P w H h':=fun a o e =>
 (x a o e).stay (fun b u _ q=>k b u q) (fun _ q=>q) fun _ _ q=>q
theorem HOk.laid (x:HOk P w H h) (k:∀ b u,h.get? b=some u→h'.get? b=some u) (hp:h.objs.size≤a) (new:ObjOk P w (upd H a o) h' a o):HOk P w (upd H a o) h':=fun b u e=>by
 have hn:=x.fresh hp
 by_cases hb:b=a
 ·subst hb; rw [zAC] at e; cases e; exact new
 ·rw [zAF hb] at e
  exact (x b u e).stay (fun c v _ q=>k c v q) (fun c q=>by rw [zAF (zAV q hn)]; exact q) fun c xs q=>by rw [zAF (zAV q hn)]; exact q
end
noncomputable def Rd (H:Hp) (a:Addr) (u:HO):Prop:=H a=some u∨∃ o,H a=some (.frz o u)
theorem Rd.ok {P:Program} {w:World} {H:Hp} {h:Heap} {a:Addr} {u:HO} (r:Rd H a u) (x:HOk P w H h):ObjOk P w H h a u:=by
 rcases r with r | ⟨o,r⟩
 ·exact x a u r
 ·obtain ⟨_,q⟩:=x a _ r
  exact q
noncomputable def Mut:Option HO→Prop
 | some (.lst _)=>True
 | some (.dK _)=>True
 | some (.dT _)=>True
 | some (.set _ _)=>True
 | some (.ins _ _ _)=>True
 | some (.ext _)=>True
 | _=>False
section
variable {P:Program} {w:World} {H:Hp} {h h':Heap} {x e:Addr} {o':HO}
theorem HOk.write (ok:HOk P w H h) (mu:Mut (H x)) (he:e=x∨H e=some (.own x)) (k:∀ b u,b≠e→h.get? b=some u→h'.get? b=some u) (heo:∃ u,h'.get? e=some u)
  (new:ObjOk P w (upd H x o') h' x o'):HOk P w (upd H x o') h':=fun b u q=>by
 have nown:∀ c y,H c=some (.own y)→c≠x:=fun c y r z=>by subst z; rw [r] at mu; exact mu
 have ntup:∀ c xs,H c=some (.tup xs)→c≠x:=fun c xs r z=>by subst z; rw [r] at mu; exact mu
 by_cases hb:b=x
 ·subst hb; rw [zAC] at q; cases q; exact new
 ·rw [zAF hb] at q
  by_cases hbe:b=e
  ·have q':H b=some (.own x):=by
    rcases he with z | z
    ·exact absurd (hbe.trans z) hb
    ·rw [hbe]; exact z
   rw [q] at q'; cases q'
   obtain ⟨v,hv⟩:=heo
   exact ⟨v,by rw [hbe]; exact hv⟩
  ·refine (ok b u q).stay (fun c v hc r=>k c v ?_ r) (fun c r=>by rw [zAF (nown c b r)]; exact r) fun c xs r=>by rw [zAF (ntup c xs r)]; exact r
   rcases hc with rfl | hc
   ·exact hbe
   ·rintro rfl
    rcases he with z | z
    ·exact nown c b hc z
    ·rw [hc] at z; cases z; exact hb rfl
end
structure Un (fs ex:List Addr) (H H':Hp) (h h':Heap):Prop where
 keep:∀ b o,h.get? b=some o→H b=none→b∉fs→b∉ex→h'.get? b=some o
 slot:∀ b o,h.get? b=some o→H b=none→b∈fs→b∉ex→∃ sl,h'.get? b=some { o with slots:=sl }
 free:∀ b o,h.get? b=some o→H b=none→b∉ex→H' b=none
 there:∀ b o,h.get? b=some o→b∉ex→∃ o',h'.get? b=some o'
 tups:∀ b xs,H b=some (.tup xs)→H' b=some (.tup xs)
 frzs:∀ b o u,H b=some (.frz o u)→H' b=some (.frz o u)
 tbls:∀ b ps,H b=some (.tbl ps)→∃ more,H' b=some (.tbl (ps++more))
section
variable {fs fs' ex ex':List Addr} {H H1 H2:Hp} {h h1 h2 h':Heap} {a x e:Addr} {o:HO}
theorem Un.any (u:Un fs ex H H1 h h1) {b:Addr} {ob:Obj} (q:h.get? b=some ob) (n:H b=none) (hx:b∉ex):∃ sl,h1.get? b=some { ob with slots:=sl }:=by
 by_cases hb:b∈fs
 ·exact u.slot b ob q n hb hx
 ·exact ⟨ob.slots,u.keep b ob q n hb hx⟩
theorem Un.kept (k:∀ b u,h.get? b=some u→h'.get? b=some u):Un fs ex H H h h' :=
 ⟨fun b ob q _ _ _=>k b ob q,fun b ob q _ _ _=>⟨ob.slots,k b ob q⟩,fun _ _ _ n _=>n,fun b ob q _=>⟨ob,k b ob q⟩,fun _ _ q=>q,fun _ _ _ q=>q,fun _ ps q=>⟨#[],by rw [q]; simp⟩⟩
theorem Un.refl:Un fs ex H H h h:=Un.kept fun _ _ q=>q
theorem Un.laid (k:∀ b u,h.get? b=some u→h'.get? b=some u) (hp:h.objs.size≤a) (hn:H a=none):Un fs ex H (upd H a o) h h' where
 keep:=fun b u q _ _ _=>k b u q
 slot:=fun b u q _ _ _=>⟨u.slots,k b u q⟩
 free:=fun b u q n _=>by rw [zAF (Nat.ne_of_lt (Nat.lt_of_lt_of_le (Heap.lt_size q) hp))]; exact n
 there:=fun b u q _=>⟨u,k b u q⟩
 tups:=fun b xs q=>by rw [zAF (zAV q hn)]; exact q
 frzs:=fun b u xs q=>by rw [zAF (zAV q hn)]; exact q
 tbls:=fun b ps q=>⟨#[],by rw [zAF (zAV q hn),q]; simp⟩
theorem Un.write (mu:Mut (H x)) (he:e=x∨H e=some (.own x)) (k:∀ b u,b≠e→h.get? b=some u→h'.get? b=some u) (heo:∃ u,h'.get? e=some u):Un fs ex H (upd H x o) h h':=by
 have hx:∀ b,H b=none→b≠x:=fun b n z=>by subst z; rw [n] at mu; exact mu
 have hb:∀ b,H b=none→b≠e:=fun b n z=>by
  subst z
  rcases he with r | r
  ·exact hx b n r
  ·rw [n] at r; cases r
 have hm:∀ b u,H b=some u→¬ Mut (some u)→b≠x:=fun b u q nm z=>by subst z; rw [q] at mu; exact nm mu
 refine ⟨fun b u q n _ _=>k b u (hb b n) q,fun b u q n _ _=>⟨u.slots,k b u (hb b n) q⟩,fun b u q n _=>by rw [zAF (hx b n)]; exact n,fun b u q _=>?_,
  fun b xs q=>by rw [zAF (hm b _ q fun z=>z)]; exact q,fun b u xs q=>by rw [zAF (hm b _ q fun z=>z)]; exact q,fun b ps q=>⟨#[],by rw [zAF (hm b _ q fun z=>z),q]; simp⟩⟩
 by_cases hbe:b=e
 ·subst hbe; exact heo
 ·exact ⟨u,k b u hbe q⟩
end
noncomputable def trk (h:Heap) (H:Hp):List Addr:=(List.range h.objs.size).filter fun a=>(H a).isSome
noncomputable def hidT (h:Heap) (H:Hp):Heap:=PySem.W.hideAll h (trk h H)
theorem zKN (h:Heap) (H:Hp):(hidT h H).objs.size=h.objs.size:=PySem.W.hideAll_size _ _
theorem zMW {h:Heap} {H:Hp} {b:Addr} {o:Obj} (e:h.get? b=some o) (n:H b=none):(hidT h H).get? b=some o :=
 PySem.W.hideAll_get _ e fun hm=>by
  have q:(H b).isSome=true:=(List.mem_filter.mp hm).2
  rw [n] at q; simp at q
theorem zPG {h:Heap} {H:Hp} {b:Addr} {o:Obj} (e:(hidT h H).get? b=some o):h.get? b=some o∧H b=none:=by
 have e':h.get? b=some o:=PySem.W.of_hideAll (trk h H) e
 refine ⟨e',?_⟩
 cases q:H b with
 | none=>rfl
 | some x =>
  have hm:b∈trk h H:=List.mem_filter.mpr ⟨List.mem_range.mpr (Heap.lt_size e'),by simp [q]⟩
  have z:(hidT h H).get? b=none:=PySem.W.hideAll_none (trk h H) hm
  rw [z] at e; cases e
noncomputable def zPH (g h:Heap) (L:Addr):List (Addr × Obj):=(List.range h.objs.size).filterMap fun a=>if a=L∨(g.get? a).isSome=true then none else (h.get? a).map fun o=>(a,o)
noncomputable def rest (g h:Heap) (L d:Addr):List (Addr × Obj):=(zPH g h L).filter fun p=>decide (p.1≠d)
end L2
namespace L2
open PySem PySem.Spec PyProof.Rows
structure Mod (K:PySem.W.Frag) (mg:Str→Option Value) (base:Heap):Prop where
 kin:K.In base
 glob:base.Ns mainGlobals mg
 blt:∃ mb,base.Ns builtinsNs mb∧∀ x:Str,x≠"__name__"→mb x=bootBuiltins x
 nolimit:base.NoLimit
structure Cx where
 prog:Program
 w:World
 K:PySem.W.Frag
 mg:Str→Option Value
 base:Heap
 A:Around
 N:List Str
 s₀:Shared
 H₀:Hp
 env:Env
 outer:List Env
 stack:List Env
 ex:List Addr
 fn:Str→Bool
 calm:Bool
 pn:List (Addr × Obj)
 xe:Value→Shared→Prop
noncomputable def frs (l:List Env):List Addr:=l.filterMap (·.frame)
noncomputable abbrev Cx.fs (X:Cx):List Addr:=frs X.outer
noncomputable def Vis (sc:Scope) (x:Str):Prop:=sc.names.lookup x=some .local∨sc.names.lookup x=some .cell∨sc.names.lookup x=some .free
noncomputable def Loc (sc:Scope) (x:Str):Prop:=sc.names.lookup x=some .local∨sc.names.lookup x=some .cell
noncomputable def Look (env:Env) (h:Heap) (m:Str→Option Value) (x:Str) (u:Value):Prop :=
 (env.kindOf x=some .local∧m x=some u)∨((env.kindOf x=some .cell∨env.kindOf x=some .free)∧∃ c,env.cells.lookup x=some c∧h.IsCell c (some u))
structure Cx.Ok (X:Cx):Prop where
 mod:Mod X.K X.mg X.base
 kind:X.env.scope.kind=.function
 glob:X.env.globals=mainGlobals
 blt:X.env.builtins=builtinsNs
 above:X.s₀.heap.objs.size≤X.env.locals
 inj:∀ x y c,X.env.cells.lookup x=some c→X.env.cells.lookup y=some c→x=y
 has:∀ x,(X.env.kindOf x=some .cell∨X.env.kindOf x=some .free)→∃ c,X.env.cells.lookup x=some c
 cab:∀ x c,X.fn x=true→X.env.cells.lookup x=some c→X.s₀.heap.objs.size≤c
 hd:X.calm=true→X.A.handled=none
 frames:X.A.frames=some X.stack
 stk:X.stack=X.outer∨(X.stack=X.env::X.outer∧X.env.frame=some X.env.locals)
 exf:∀ b∈X.ex,b≠X.env.locals∧∀ x c,X.env.cells.lookup x=some c→c≠b
 bs:∀ b o,X.base.get? b=some o→X.s₀.heap.get? b=some o∧X.H₀ b=none
 bsz:X.base.objs.size≤X.s₀.heap.objs.size
 noex:∀ b o,X.base.get? b=some o→b∉X.ex
 exfs:∀ b∈X.ex,b∉X.fs
 funs:X.s₀.heap.FunFrames X.base X.outer
 frf:∀ b∈X.fs,X.H₀ b=none
structure Inv (X:Cx) (pins:List (Addr × Obj)) (σ:List (Option V)) (H:Hp) (s:Shared):Prop where
 ok:X.Ok
 os:s.os=X.s₀.os
 bare:AllBare s.gens
 base:Un X.fs X.ex X.H₀ H X.s₀.heap s.heap
 loc:∃ m,s.heap.Ns X.env.locals m∧∀ (i:Nat) (x:Str) (v:V),X.N[i]?=some x→σ[i]?=some (some v)→Vis X.env.scope x→∃ u,RelV v u∧Look X.env s.heap m x u
 cell:∀ x c,X.env.cells.lookup x=some c→∃ v,s.heap.IsCell c v
 free:H X.env.locals=none
 freeC:∀ x c,X.env.cells.lookup x=some c→H c=none
 pin:∀ p∈X.pn++pins,s.heap.get? p.1=some p.2∧H p.1=none∧p.1≠X.env.locals∧p.1∉X.fs∧∀ v,p.2.data≠.cell v
 hok:HOk X.prog X.w H s.heap
 len:σ.length=X.N.length
section
variable {X:Cx} {pins:List (Addr × Obj)} {σ:List (Option V)} {H H':Hp} {s:Shared} {h':Heap}
theorem Cx.Ok.nofr (ok:X.Ok) {b:Addr} {o:Obj} (e:X.base.get? b=some o):b∉X.fs:=fun hb=>by
 have:=(ok.funs.mem hb).1
 rw [e] at this; cases this
theorem Inv.bs (I:Inv X pins σ H s):∀ b o,X.base.get? b=some o→s.heap.get? b=some o∧H b=none:=fun b o e =>
 ⟨I.base.keep b o (I.ok.bs b o e).1 (I.ok.bs b o e).2 (I.ok.nofr e) (I.ok.noex b o e),I.base.free b o (I.ok.bs b o e).1 (I.ok.bs b o e).2 (I.ok.noex b o e)⟩
theorem Inv.bk (I:Inv X pins σ H s):∀ b o,X.base.get? b=some o→s.heap.get? b=some o:=fun b o e=>(I.bs b o e).1
theorem Inv.mod (I:Inv X pins σ H s):Mod X.K X.mg X.base:=I.ok.mod
theorem Inv.kIn (I:Inv X pins σ H s):X.K.In s.heap:=I.ok.mod.kin.keeps I.bk
theorem Inv.lt (I:Inv X pins σ H s):X.env.locals<s.heap.objs.size:=let ⟨_,hn,_⟩:=I.loc; hn.lt
theorem Inv.sz (I:Inv X pins σ H s):X.s₀.heap.objs.size≤s.heap.objs.size:=Nat.le_trans I.ok.above (Nat.le_of_lt I.lt)
theorem Inv.nofs (I:Inv X pins σ H s) {a:Addr} (h:s.heap.objs.size≤a):a∉X.fs:=fun hb=>by
 obtain ⟨_,o,ho,_⟩:=I.ok.funs.mem hb
 exact absurd (Nat.lt_of_lt_of_le (Heap.lt_size ho) (Nat.le_trans I.sz h)) (Nat.lt_irrefl _)
theorem Inv.cne (I:Inv X pins σ H s):∀ x c,X.env.cells.lookup x=some c→c≠X.env.locals:=fun x c e z=>by
 obtain ⟨v,o,ho,hd⟩:=I.cell x c e
 obtain ⟨m,⟨o',es,ep,ho',hd',_⟩,_⟩:=I.loc
 rw [z,ho'] at ho; cases ho; rw [hd'] at hd; cases hd
theorem Inv.funs (I:Inv X pins σ H s):s.heap.FunFrames X.base X.outer:=by
 have all:∀ (l:List Env),(∀ b∈frs l,b∈X.fs)→X.s₀.heap.FunFrames X.base l→s.heap.FunFrames X.base l:=by
  intro l
  induction l with
  | nil=>intro _ _; trivial
  | cons env r ih =>
   intro hs hl
   obtain ⟨hk,⟨L,o,hf,hn,ho,hd⟩,hr⟩:=hl
   have hL:L∈X.fs:=hs L (by unfold frs; rw [List.filterMap_cons,hf]; exact List.mem_cons_self)
   obtain ⟨sl,e⟩:=I.base.slot L o ho (I.ok.frf L hL) hL fun z=>I.ok.exfs L z hL
   exact ⟨hk,⟨L,_,hf,hn,e,hd⟩,ih (fun b hb=>hs b (by unfold frs; rw [List.filterMap_cons,hf]; exact List.mem_cons_of_mem _ hb)) hr⟩
 exact all X.outer (fun _ hb=>hb) I.ok.funs
theorem Inv.stack (I:Inv X pins σ H s):s.heap.FunFrames X.base X.stack:=by
 rcases I.ok.stk with e | ⟨e,hf⟩
 ·rw [e]; exact I.funs
 ·rw [e]
  obtain ⟨m,hn,_⟩:=I.loc
  refine .cons (by rw [I.ok.kind]; decide) hf hn ?_ I.funs
  exact Heap.get?_none_of_le (Nat.le_trans I.ok.bsz I.ok.above)
theorem Inv.stkSub (I:Inv X pins σ H s):∀ b∈frs X.stack,b∈X.env.locals::X.fs:=fun b hb=>by
 rcases I.ok.stk with e | ⟨e,hf⟩
 ·rw [e] at hb; exact List.mem_cons_of_mem _ hb
 ·rw [e] at hb
  unfold frs at hb
  rw [List.filterMap_cons,hf] at hb
  exact hb
theorem Inv.stkFree (I:Inv X pins σ H s):∀ b∈frs X.stack,H b=none:=fun b hb=>by
 rcases List.mem_cons.mp (I.stkSub b hb) with e | hb
 ·rw [e]; exact I.free
 ·obtain ⟨_,o,ho,_⟩:=I.ok.funs.mem hb
  exact I.base.free b o ho (I.ok.frf b hb) fun z=>I.ok.exfs b z hb
theorem Inv.step {g':Array GenState} {t':Nat} {d':Drawn} {ch:List Addr} (I:Inv X pins σ H s)
  (hch:∀ b∈ch,(b∈X.ex∨X.s₀.heap.objs.size≤b)∧b≠X.env.locals∧(∀ x c,X.env.cells.lookup x=some c→c≠b)∧∀ p∈X.pn++pins,p.1≠b)
  (keep:∀ b o,b≠X.env.locals→b∉X.fs→b∉ch→s.heap.get? b=some o→H b=none→h'.get? b=some o)
  (slot:∀ b o,b≠X.env.locals→b∈X.fs→b∉ch→s.heap.get? b=some o→H b=none→∃ sl,h'.get? b=some { o with slots:=sl }) (free:∀ b o,b∉ch→s.heap.get? b=some o→H b=none→H' b=none)
  (there:∀ b o,b∉ch→s.heap.get? b=some o→∃ o',h'.get? b=some o')
  (tups:∀ b xs,H b=some (.tup xs)→H' b=some (.tup xs)) (frzs:∀ b o u,H b=some (.frz o u)→H' b=some (.frz o u)) (tbls:∀ b ps,H b=some (.tbl ps)→∃ more,H' b=some (.tbl (ps++more)))
  (ns:∀ m,s.heap.Ns X.env.locals m→h'.Ns X.env.locals m) (hok:HOk X.prog X.w H' h') (hg:AllBare g') :
  Inv X pins σ H' { s with heap:=h',gens:=g',drawn:=d',toks:=t' }:=by
 have neL:∀ b o,X.s₀.heap.get? b=some o→b≠X.env.locals:=fun b o e=>Nat.ne_of_lt (Nat.lt_of_lt_of_le (Heap.lt_size e) I.ok.above)
 have neC:∀ b o,X.s₀.heap.get? b=some o→b∉X.ex→b∉ch:=fun b o e hx hb=>by
  rcases (hch b hb).1 with z | z
  ·exact hx z
  ·exact absurd (Nat.lt_of_lt_of_le (Heap.lt_size e) z) (Nat.lt_irrefl _)
 have cellK:∀ x c,X.env.cells.lookup x=some c→∀ v,s.heap.IsCell c v→h'.IsCell c v:=fun x c e v ⟨o,ho,hd⟩=>by
  have nch:c∉ch:=fun z=>(hch c z).2.2.1 x c e rfl
  by_cases hc:c∈X.fs
  ·obtain ⟨sl,q⟩:=slot c o (I.cne x c e) hc nch ho (I.freeC x c e)
   exact ⟨_,q,hd⟩
  ·exact ⟨o,keep c o (I.cne x c e) hc nch ho (I.freeC x c e),hd⟩
 refine ⟨I.ok,I.os,hg,⟨fun b o e n hb hx=>?_,fun b o e n hb hx=>?_,fun b o e n hx=>?_,fun b o e hx=>?_,fun b xs e=>tups b xs (I.base.tups b xs e),fun b o xs e=>frzs b o xs (I.base.frzs b o xs e),fun b ps e=>?_⟩,?_,fun x c e=>?_,?_,fun x c e=>?_,fun p hp=>?_,hok,I.len⟩
 ·exact keep b o (neL b o e) hb (neC b o e hx) (I.base.keep b o e n hb hx) (I.base.free b o e n hx)
 ·obtain ⟨sl,e1⟩:=I.base.slot b o e n hb hx
  obtain ⟨sl',e2⟩:=slot b _ (neL b o e) hb (neC b o e hx) e1 (I.base.free b o e n hx)
  exact ⟨sl',e2⟩
 ·obtain ⟨o',e1⟩:=I.base.there b o e hx
  exact free b o' (neC b o e hx) e1 (I.base.free b o e n hx)
 ·obtain ⟨o',e1⟩:=I.base.there b o e hx
  exact there b o' (neC b o e hx) e1
 ·obtain ⟨m1,e1⟩:=I.base.tbls b ps e
  obtain ⟨m2,e2⟩:=tbls b _ e1
  exact ⟨m1++m2,by rw [e2,Array.append_assoc]⟩
 ·obtain ⟨m,hn,hl⟩:=I.loc
  refine ⟨m,ns m hn,fun i x v e1 e2 e3=>?_⟩
  obtain ⟨u,r,l⟩:=hl i x v e1 e2 e3
  refine ⟨u,r,?_⟩
  rcases l with l | ⟨k,c,e,z⟩
  ·exact .inl l
  ·exact .inr ⟨k,c,e,cellK x c e _ z⟩
 ·obtain ⟨v,z⟩:=I.cell x c e
  exact ⟨v,cellK x c e v z⟩
 ·obtain ⟨m,⟨o,_,_,ho,_⟩,_⟩:=I.loc
  exact free _ o (fun z=>(hch _ z).2.1 rfl) ho I.free
 ·obtain ⟨v,o,ho,hd⟩:=I.cell x c e
  exact free c o (fun z=>(hch c z).2.2.1 x c e rfl) ho (I.freeC x c e)
 ·obtain ⟨e,n,ne,nf,d⟩:=I.pin p hp
  have nch:p.1∉ch:=fun z=>(hch p.1 z).2.2.2 p hp rfl
  exact ⟨keep p.1 p.2 ne nf nch e n,free p.1 p.2 nch e n,ne,nf,d⟩
theorem Inv.un {t':Nat} (I:Inv X pins σ H s) (u:Un X.fs [] H H' s.heap h') (hok:HOk X.prog X.w H' h'):Inv X pins σ H' { s with heap:=h',toks:=t' }:=by
 obtain ⟨m,⟨o,es,ep,ho,r⟩,_⟩:=id I.loc
 obtain ⟨sl,hL⟩:=u.any ho I.free (by simp)
 exact I.step (g':=s.gens) (d':=s.drawn) (ch:=[]) (fun _ z=>nomatch z) (fun b o _ hb _ e n=>u.keep b o e n hb (by simp)) (fun b o _ hb _ e n=>u.slot b o e n hb (by simp)) (fun b o _ e n=>u.free b o e n (by simp)) (fun b o _ e=>u.there b o e (by simp)) u.tups u.frzs u.tbls (fun m' hm=>by
  obtain ⟨o',es',ep',ho',r'⟩:=hm
  rw [ho] at ho'; cases ho'
  exact ⟨_,es',ep',hL,r'⟩) hok I.bare
theorem Inv.call {g':Array GenState} {t':Nat} {d':Drawn} {ch:List Addr} (I:Inv X pins σ H s) (u:Un (frs X.stack) ch H H' s.heap h') (hok:HOk X.prog X.w H' h') (hg:AllBare g')
  (hch:∀ b∈ch,(b∈X.ex∨X.s₀.heap.objs.size≤b)∧b≠X.env.locals∧(∀ x c,X.env.cells.lookup x=some c→c≠b)∧∀ p∈X.pn++pins,p.1≠b) :
  Inv X pins σ H' { s with heap:=h',gens:=g',drawn:=d',toks:=t' }:=by
 obtain ⟨m,⟨o,es,ep,ho,r⟩,_⟩:=id I.loc
 obtain ⟨sl,hL⟩:=u.any ho I.free fun z=>(hch _ z).2.1 rfl
 exact I.step (ch:=ch) hch (fun b o hL hb hc e n=>u.keep b o e n (fun z=>(List.mem_cons.mp (I.stkSub b z)).elim hL hb) hc) (fun b o _ _ hc e n=>u.any e n hc) (fun b o hc e n=>u.free b o e n hc) (fun b o hc e=>u.there b o e hc) u.tups u.frzs u.tbls (fun m' hm=>by
  obtain ⟨o',es',ep',ho',r'⟩:=hm
  rw [ho] at ho'; cases ho'
  exact ⟨_,es',ep',hL,r'⟩) hok hg
theorem Inv.turned {t':Nat} {it:Addr} (I:Inv X pins σ H s) (k:∀ b o,b≠it→s.heap.get? b=some o→h'.get? b=some o) (hn:H it=none) (hL:it≠X.env.locals)
  (h1:it∈X.ex∨X.s₀.heap.objs.size≤it) (h2:∀ x c,X.env.cells.lookup x=some c→c≠it) (h3:∀ p∈X.pn++pins,p.1≠it):Inv X pins σ H { s with heap:=h',toks:=t' }:=by
 have nit:∀ b u,H b=some u→b≠it:=fun b u e z=>by rw [z,hn] at e; cases e
 refine I.step (g':=s.gens) (d':=s.drawn) (ch:=[it]) (fun b hb=>?_) (fun b o _ _ hc e _=>k b o (fun z=>hc (by simp [z])) e) (fun b o _ _ hc e _=>⟨o.slots,k b o (fun z=>hc (by simp [z])) e⟩) (fun _ _ _ _ n=>n)
  (fun b o hc e=>⟨o,k b o (fun z=>hc (by simp [z])) e⟩) (fun _ _ e=>e) (fun _ _ _ e=>e) (fun b ps e=>⟨#[],by rw [e]; simp⟩) (fun m hm=>?_) (fun b u e=>?_) I.bare
 ·have e:b=it:=by simpa using hb
  subst e
  exact ⟨h1,hL,h2,h3⟩
 ·obtain ⟨o,es,ep,ho,r⟩:=hm
  exact ⟨o,es,ep,k _ o (Ne.symm hL) ho,r⟩
 ·refine (I.hok b u e).stay (fun c v hc q=>k c v ?_ q) (fun _ q=>q) fun _ _ q=>q
  rcases hc with z | z
  ·rw [z]; exact nit b u e
  ·exact nit c _ z
theorem Inv.tok (I:Inv X pins σ H s) (t:Nat):Inv X pins σ H { s with toks:=t }:=I.un (h':=s.heap) (t':=t) Un.refl I.hok
theorem Inv.kept {t':Nat} (I:Inv X pins σ H s) (k:∀ b u,s.heap.get? b=some u→h'.get? b=some u):Inv X pins σ H { s with heap:=h',toks:=t' }:=I.un (Un.kept k) (I.hok.kept k)
theorem Inv.laid {a:Addr} {o:HO} {t':Nat} (I:Inv X pins σ H s) (k:∀ b u,s.heap.get? b=some u→h'.get? b=some u) (hp:s.heap.objs.size≤a) (new:ObjOk X.prog X.w (upd H a o) h' a o) :
  Inv X pins σ (upd H a o) { s with heap:=h',toks:=t' }:=I.un (Un.laid k hp (I.hok.fresh hp)) (I.hok.laid k hp new)
theorem Inv.write {x e:Addr} {o:HO} {t':Nat} (I:Inv X pins σ H s) (mu:Mut (H x)) (he:e=x∨H e=some (.own x)) (k:∀ b u,b≠e→s.heap.get? b=some u→h'.get? b=some u) (heo:∃ u,h'.get? e=some u)
  (new:ObjOk X.prog X.w (upd H x o) h' x o):Inv X pins σ (upd H x o) { s with heap:=h',toks:=t' }:=I.un (Un.write mu he k heo) (I.hok.write mu he k heo new)
theorem Inv.pins_of {pins':List (Addr × Obj)} (I:Inv X pins σ H s) (h:∀ p∈pins',s.heap.get? p.1=some p.2∧H p.1=none∧p.1≠X.env.locals∧p.1∉X.fs∧∀ v,p.2.data≠.cell v):Inv X pins' σ H s :=
 ⟨I.ok,I.os,I.bare,I.base,I.loc,I.cell,I.free,I.freeC,fun p hp=>(List.mem_append.mp hp).elim (fun z=>I.pin p (List.mem_append_left _ z)) (h p),I.hok,I.len⟩
theorem zIW {N:List Str} (hN:N.Nodup) {i j:Nat} {x:Str} (a:N[i]?=some x) (b:N[j]?=some x):i=j:=by
 obtain ⟨h1,e1⟩:=List.getElem?_eq_some_iff.mp a
 obtain ⟨h2,e2⟩:=List.getElem?_eq_some_iff.mp b
 exact (List.getElem_inj hN).mp (e1.trans e2.symm)
theorem zGN {M:Model} {A:Around} {E:Value→Shared→Prop} {i:Nat} {x:Str} {v:V} {u:Value} {Q:Unit→Shared→Prop} (I:Inv X pins σ H s) (hN:X.N.Nodup) (hi:X.N[i]?=some x) (hx:Loc X.env.scope x) (r:RelV v u)
  (h:∀ s',Inv X pins (σ.set i (some v)) H s'→(∃ a,Heap.SameBut a s.heap s'.heap∧(a=X.env.locals∨X.env.cells.lookup x=some a))→Q () s') (hf:X.fn x=true∨X.env.scope.names.lookup x=some .local:=by first | exact .inl rfl | exact .inr rfl | assumption):wpAny M A (storeName X.env x u) Q E s:=by
 obtain ⟨m,hn,hl⟩:=id I.loc
 have hcls:(X.env.scope.kind == .class || (X.env.scope.kind == .module && X.env.locals != X.env.globals))=false:=by rw [I.ok.kind]; rfl
 have hiσ:i < σ.length:=by rw [I.len]; exact (List.getElem?_eq_some_iff.mp hi).1
 have cne:=I.cne
 have tracked:∀ {a:Addr} {h':Heap},(∃ o,s.heap.get? a=some o∧H a=none)→Heap.SameBut a s.heap h'→HOk X.prog X.w H h':=fun {a h'} ha hs b ob e=>by
  obtain ⟨_,_,hfree⟩:=ha
  refine (I.hok b ob e).stay (fun c w' hc q=>(hs.2 c ?_).trans q) (fun _ q=>q) fun _ _ q=>q
  rintro rfl
  rcases hc with rfl | hc
  ·rw [hfree] at e; cases e
  ·rw [hfree] at hc; cases hc
 rcases hx with hk | hk
 ·refine wpAny_storeName_local hk hn (fun h' hn' hs=>?_) hcls
  obtain ⟨oL,_,_,hoL,_⟩:=id hn
  refine h _ ⟨I.ok,I.os,I.bare,⟨fun b o e n hb hx=>?_,fun b o e n hb hx=>?_,I.base.free,fun b o e hx=>?_,I.base.tups,I.base.frzs,I.base.tbls⟩,⟨_,hn',fun j y v' e1 e2 e3=>?_⟩,fun y c e=>?_,I.free,I.freeC,fun p hp=>?_,tracked ⟨oL,hoL,I.free⟩ hs,by simpa using I.len⟩ ⟨_,hs,.inl rfl⟩
  ·exact (hs.2 b (Nat.ne_of_lt (Nat.lt_of_lt_of_le (Heap.lt_size e) I.ok.above))).trans (I.base.keep b o e n hb hx)
  ·obtain ⟨sl,e1⟩:=I.base.slot b o e n hb hx
   exact ⟨sl,(hs.2 b (Nat.ne_of_lt (Nat.lt_of_lt_of_le (Heap.lt_size e) I.ok.above))).trans e1⟩
  ·obtain ⟨o',e1⟩:=I.base.there b o e hx
   exact ⟨o',(hs.2 b (Nat.ne_of_lt (Nat.lt_of_lt_of_le (Heap.lt_size e) I.ok.above))).trans e1⟩
  ·by_cases hj:j=i
   ·subst hj
    rw [hi] at e1; cases e1
    rw [List.getElem?_set_self hiσ] at e2
    cases e2
    exact ⟨u,r,.inl ⟨hk,by simp⟩⟩
   ·rw [List.getElem?_set_ne (Ne.symm hj)] at e2
    obtain ⟨u',r',q⟩:=hl j y v' e1 e2 e3
    refine ⟨u',r',?_⟩
    rcases q with ⟨k,e⟩ | ⟨k,c,e,z⟩
    ·refine .inl ⟨k,?_⟩
     have:y≠x:=fun e=>hj (zIW hN e1 (e ▸ hi))
     simp [this,e]
    ·exact .inr ⟨k,c,e,z.sameBut hs (cne y c e)⟩
  ·obtain ⟨w',z⟩:=I.cell y c e
   exact ⟨w',z.sameBut hs (cne y c e)⟩
  ·obtain ⟨e,n,ne,nf,d⟩:=I.pin p hp
   exact ⟨(hs.2 p.1 ne).trans e,n,ne,nf,d⟩
 ·have hfn:X.fn x=true:=by
   rcases hf with z | z
   ·exact z
   ·rw [z] at hk; cases hk
  obtain ⟨c,hc⟩:=I.ok.has x (.inl hk)
  obtain ⟨w',z⟩:=I.cell x c hc
  refine wpAny_storeName_cell I.ok.kind hk hc z (fun h' hc' hs=>?_)
  obtain ⟨oc,hoc,hocd⟩:=id z
  refine h { s with heap:=h' } ⟨I.ok,I.os,I.bare,⟨fun b o e n hb hx=>?_,fun b o e n hb hx=>?_,I.base.free,fun b o e hx=>?_,I.base.tups,I.base.frzs,I.base.tbls⟩,⟨m,hn.sameBut hs (Ne.symm (cne x c hc)),fun j y v' e1 e2 e3=>?_⟩,fun y c' e=>?_,I.free,I.freeC,fun p hp=>?_,tracked ⟨oc,hoc,I.freeC x c hc⟩ hs,by simpa using I.len⟩ ⟨c,hs,.inr hc⟩
  ·exact (hs.2 b (Nat.ne_of_lt (Nat.lt_of_lt_of_le (Heap.lt_size e) (I.ok.cab x c hfn hc)))).trans (I.base.keep b o e n hb hx)
  ·obtain ⟨sl,e1⟩:=I.base.slot b o e n hb hx
   exact ⟨sl,(hs.2 b (Nat.ne_of_lt (Nat.lt_of_lt_of_le (Heap.lt_size e) (I.ok.cab x c hfn hc)))).trans e1⟩
  ·obtain ⟨o',e1⟩:=I.base.there b o e hx
   exact ⟨o',(hs.2 b (Nat.ne_of_lt (Nat.lt_of_lt_of_le (Heap.lt_size e) (I.ok.cab x c hfn hc)))).trans e1⟩
  ·by_cases hj:j=i
   ·subst hj
    rw [hi] at e1; cases e1
    rw [List.getElem?_set_self hiσ] at e2
    cases e2
    exact ⟨u,r,.inr ⟨.inl hk,c,hc,hc'⟩⟩
   ·rw [List.getElem?_set_ne (Ne.symm hj)] at e2
    obtain ⟨u',r',q⟩:=hl j y v' e1 e2 e3
    refine ⟨u',r',?_⟩
    rcases q with q | ⟨k,c',e,z'⟩
    ·exact .inl q
    ·refine .inr ⟨k,c',e,z'.sameBut hs ?_⟩
     rintro rfl
     exact hj (zIW hN e1 (I.ok.inj _ _ _ e hc ▸ hi))
  ·by_cases hcc:c'=c
   ·subst hcc; exact ⟨_,hc'⟩
   ·obtain ⟨w2,z2⟩:=I.cell y c' e
    exact ⟨w2,z2.sameBut hs hcc⟩
  ·obtain ⟨e,n,ne,nf,d⟩:=I.pin p hp
   refine ⟨(hs.2 p.1 ?_).trans e,n,ne,nf,d⟩
   intro q
   rw [q,hoc] at e
   have q':oc=p.2:=Option.some.inj e
   exact d w' (by rw [← q']; exact hocd)
theorem zIX {M:Model} {A:Around} {E:Value→Shared→Prop} {i:Nat} {x:Str} {v:V} {u:Value} {Q:Unit→Shared→Prop} (I:Inv X pins σ H s) (hN:X.N.Nodup) (hi:X.N[i]?=some x) (hx:Loc X.env.scope x) (r:RelV v u)
  (h:∀ s',Inv X pins (σ.set i (some v)) H s'→Q () s') (hf:X.fn x=true∨X.env.scope.names.lookup x=some .local:=by first | exact .inl rfl | exact .inr rfl | assumption):wpAny M A (storeName X.env x u) Q E s :=
 zGN I hN hi hx r (fun s' I' _=>h s' I') hf
theorem Inv.call' {s':Shared} {ch:List Addr} (I:Inv X pins σ H s) (ho:s'.os=s.os) (u:Un (frs X.stack) ch H H' s.heap s'.heap) (hok:HOk X.prog X.w H' s'.heap) (hg:AllBare s'.gens)
  (hch:∀ b∈ch,(b∈X.ex∨X.s₀.heap.objs.size≤b)∧b≠X.env.locals∧(∀ x c,X.env.cells.lookup x=some c→c≠b)∧∀ p∈X.pn++pins,p.1≠b):Inv X pins σ H' s':=by
 obtain ⟨h',g',d',t',o'⟩:=s'
 have e:o'=s.os:=ho
 subst e
 exact I.call (g':=g') (t':=t') (d':=d') u hok hg hch
end
noncomputable abbrev XK:=Value→Option Addr→Hp→Prop
noncomputable abbrev St:=List (Option V)
noncomputable abbrev VK:=V→Hp→Prop
noncomputable abbrev TE:=St→Hp→VK→Prop
noncomputable abbrev TT:=St→Hp→(Bool→Hp→Prop)→Prop
noncomputable abbrev TA:=St→Hp→(List V→Hp→Prop)→Prop
structure Ends where
 nx:St→Hp→Prop
 rt:VK
 bk:St→Hp→Prop:=fun _ _=>False
 ct:St→Hp→Prop:=fun _ _=>False
noncomputable abbrev TS:=Ends→St→Hp→Prop
noncomputable def EP (X:Cx) (pins:List (Addr × Obj)) (σ:St) (Q:VK) (u:Value) (s':Shared):Prop:=∃ v H',Inv X pins σ H' s'∧RelV v u∧Q v H'
noncomputable def TP (X:Cx) (pins:List (Addr × Obj)) (σ:St) (Q:Bool→Hp→Prop) (b:Bool) (s':Shared):Prop:=∃ H',Inv X pins σ H' s'∧Q b H'
noncomputable def AP (X:Cx) (pins:List (Addr × Obj)) (σ:St) (Q:List V→Hp→Prop) (us:List Value) (s':Shared):Prop:=∃ vs H',Inv X pins σ H' s'∧Vals vs us∧Q vs H'
noncomputable def SP (X:Cx) (pins:List (Addr × Obj)) (D:Ends) (f:Flow) (s':Shared):Prop :=
 match f with
 | .next=>∃ σ' H',Inv X pins σ' H' s'∧D.nx σ' H'
 | .brk=>∃ σ' H',Inv X pins σ' H' s'∧D.bk σ' H'
 | .cont=>∃ σ' H',Inv X pins σ' H' s'∧D.ct σ' H'
 | .ret u=>∃ v σ' H',Inv X pins σ' H' s'∧RelV v u∧D.rt v H'
noncomputable def PE (X:Cx) (e:Expr) (t:TE):Prop :=
 ∀ (pins:List (Addr × Obj)) (s:Shared) (σ:St) (H:Hp) (Q:VK),Inv X pins σ H s→t σ H Q→wpAny (model X.prog X.w) X.A (eval e X.env) (EP X pins σ Q) X.xe s
noncomputable def PT (X:Cx) (e:Expr) (t:TT):Prop :=
 ∀ (pins:List (Addr × Obj)) (s:Shared) (σ:St) (H:Hp) (Q:Bool→Hp→Prop),Inv X pins σ H s→t σ H Q→wpAny (model X.prog X.w) X.A (isTrue e X.env (eval e X.env)) (TP X pins σ Q) X.xe s
noncomputable def PW (X:Cx) (e:Expr) (t:TT):Prop :=
 ∀ (whole:Sem Value) (pins:List (Addr × Obj)) (s:Shared) (σ:St) (H:Hp) (Q:Bool→Hp→Prop),Inv X pins σ H s→t σ H Q→wpAny (model X.prog X.w) X.A (isTrue e X.env whole) (TP X pins σ Q) X.xe s
theorem PW.pt {X:Cx} {e:Expr} {t:TT} (h:PW X e t):PT X e t:=h _
noncomputable def PA (X:Cx) (es:List Expr) (t:TA):Prop :=
 ∀ (pos:Pos) (pins:List (Addr × Obj)) (s:Shared) (σ:St) (H:Hp) (Q:List V→Hp→Prop),Inv X pins σ H s→t σ H Q→wpAny (model X.prog X.w) X.A (spliced (backTo pos (starEach es X.env))) (AP X pins σ Q) X.xe s
noncomputable def PS (X:Cx) (st:Stmt) (t:TS):Prop :=
 ∀ (pins:List (Addr × Obj)) (s:Shared) (σ:St) (H:Hp) (D:Ends),Inv X pins σ H s→t D σ H→wpAny (model X.prog X.w) X.A (exec st X.env) (SP X pins D) X.xe s
noncomputable def PSs (X:Cx) (st:List Stmt) (t:TS):Prop :=
 ∀ (pins:List (Addr × Obj)) (s:Shared) (σ:St) (H:Hp) (D:Ends),Inv X pins σ H s→t D σ H→wpAny (model X.prog X.w) X.A (execs st X.env) (SP X pins D) X.xe s
theorem thn {α:Type} {t:Sem α} {Q Q':α→Shared→Prop} {M:Model} {A:Around} {E:Value→Shared→Prop} {s:Shared} (h:wpAny M A t Q E s) (hQ:∀ a s,Q a s→Q' a s):wpAny M A t Q' E s:=wpAny_mono h hQ fun _ _ x=>x
end L2
namespace L2
open PySem PySem.Spec PyProof.Rows
section
variable {X:Cx}
theorem bin {a b:Expr} {ta tb:TE} (ha:PE X a ta) (hb:PE X b tb) {pins:List (Addr × Obj)} {s:Shared} {σ:St} {H:Hp} {R:V→V→Hp→Prop} (I:Inv X pins σ H s) (h:ta σ H fun x H1=>tb σ H1 fun y H2=>R x y H2)
  {α:Type} {Q:α→Shared→Prop} {f:Value→Value→Sem α}
  (hf:∀ v u s2 x y H2,Inv X pins σ H2 s2→RelV x v→RelV y u→R x y H2→wpAny (model X.prog X.w) X.A (f v u) Q X.xe s2) :
  wpAny (model X.prog X.w) X.A (eval a X.env) (fun v s₁=>wpAny (model X.prog X.w) X.A (eval b X.env) (fun u s₂=>wpAny (model X.prog X.w) X.A (f v u) Q X.xe s₂) X.xe s₁) X.xe s:=by
 refine thn (ha pins s σ H _ I h) fun v s1 ⟨x,H1,I1,r1,q1⟩=>?_
 refine thn (hb pins s1 σ H1 _ I1 q1) fun u s2 ⟨y,H2,I2,r2,q2⟩=>?_
 exact hf v u s2 x y H2 I2 r1 r2 q2
noncomputable def tVar (i:Nat):TE:=fun σ H Q=>∃ v,σ[i]?=some (some v)∧Q v H
noncomputable def tC (v:V):TE:=fun _ H Q=>Q v H
theorem zD5 {i:Nat} {x:Str} {pos:Pos} (hN:X.N[i]?=some x) (hv:Vis X.env.scope x) (hd:(x == ("__debug__":Str))=false:=by decide) (hcd:(x == ("__classdict__":Str))=false:=by decide):PE X (.Name x pos) (tVar i):=by
 intro pins s σ H Q I h
 obtain ⟨v,e,h⟩:=h
 obtain ⟨m,hn,hl⟩:=I.loc
 obtain ⟨u,r,l⟩:=hl i x v hN e hv
 have fin:EP X pins σ Q u s:=⟨v,H,I,r,h⟩
 rcases l with ⟨hk,hm⟩ | ⟨hk,c,hc,hcell⟩
 ·exact wpAny_Name (wpAny_loadName_local I.ok.kind hk hn hm fin) hd
 ·rcases hk with hk | hk
  ·exact wpAny_Name (wpAny_loadName_cell I.ok.kind hk hc hcell fin) hd
  ·exact wpAny_Name (wpAny_loadName_free I.ok.kind hk hc hcell fin hcd) hd
theorem pe_int {i j pos}:PE X (.Constant (.int i) j pos) (tC (.int i)):=fun _ _ _ H _ I h=>wpAny_Constant_int ⟨.int i,H,I.tok _,⟨_,rfl⟩,h⟩
theorem pe_bl {b j pos}:PE X (.Constant (.bool b) j pos) (tC (.bl b)):=fun _ _ _ H _ I h=>Constant_bool ⟨.bl b,H,I,rfl,h⟩
theorem pe_non {j pos}:PE X (.Constant .none j pos) (tC .non):=fun _ _ _ H _ I h=>Constant_none ⟨.non,H,I,rfl,h⟩
noncomputable def Gl (X:Cx) (x:Str):Prop:=X.env.kindOf x=some .globalImplicit
theorem zKO {E:Value→Shared→Prop} {pins:List (Addr × Obj)} {s:Shared} {σ:St} {H:Hp} {x:Str} {u:Value} {pos:Pos} {Q:Value→Shared→Prop} (I:Inv X pins σ H s) (hg:Gl X x) (hm:X.mg x=some u) (h:Q u s)
  (hd:(x == ("__debug__":Str))=false:=by decide):wpAny (model X.prog X.w) X.A (eval (.Name x pos) X.env) Q E s :=
 Calls.Name_function_global I.ok.kind hg (Calls.loadGlobal_global (by rw [I.ok.glob]; exact I.mod.glob.keeps I.bk) hm h) hd
theorem zD6 {E:Value→Shared→Prop} {pins:List (Addr × Obj)} {s:Shared} {σ:St} {H:Hp} {x:Str} {u:Value} {pos:Pos} {Q:Value→Shared→Prop} (I:Inv X pins σ H s) (hg:Gl X x) (hm:X.mg x=none) (hv:bootBuiltins x=some u) (h:Q u s)
  (hn:x≠"__name__":=by decide) (hd:(x == ("__debug__":Str))=false:=by decide):wpAny (model X.prog X.w) X.A (eval (.Name x pos) X.env) Q E s:=by
 obtain ⟨mb,h1,h2⟩:=I.mod.blt
 exact Calls.Name_function_global I.ok.kind hg (Calls.loadGlobal_builtin (by rw [I.ok.glob]; exact I.mod.glob.keeps I.bk) hm (by rw [I.ok.blt]; exact h1.keeps I.bk) ((h2 x hn).trans hv) h) hd
theorem zPI {x:Str} {v:V} {u:Value} {pos:Pos} (hg:Gl X x) (hm:X.mg x=some u) (r:RelV v u) (hd:(x == ("__debug__":Str))=false:=by decide):PE X (.Name x pos) (tC v) :=
 fun _ _ _ H _ I h=>zKO I hg hm ⟨v,H,I,r,h⟩ hd
theorem zPJ {x:Str} {v:V} {u:Value} {pos:Pos} (hg:Gl X x) (hm:X.mg x=none) (hv:bootBuiltins x=some u) (r:RelV v u) (hn:x≠"__name__":=by decide) (hd:(x == ("__debug__":Str))=false:=by decide):PE X (.Name x pos) (tC v) :=
 fun _ _ _ H _ I h=>zD6 I hg hm hv ⟨v,H,I,r,h⟩ hn hd
variable {a b:Expr} {ta tb:TE} {pos:Pos}
variable {tA tB':TT} {rest:List Expr}
noncomputable def tAnd (t u:TT):TT:=fun σ H Q=>t σ H fun c H1=>if c=true then u σ H1 Q else Q false H1
noncomputable def tOr (t u:TT):TT:=fun σ H Q=>t σ H fun c H1=>if c=true then Q true H1 else u σ H1 Q
noncomputable def tNot (t:TT):TT:=fun σ H Q=>t σ H fun c H1=>Q (!c) H1
theorem zPK (ha:PT X a tA):PW X (.BoolOp .And [a] pos) tA:=by
 intro wh pins s σ H Q I h
 refine isTrue_and (thn (ha pins s σ H Q I h) fun c s1 e=>?_)
 cases c with
 | true=>exact isTrue_and_nil e
 | false=>exact e
theorem zRT (ha:PT X a tA):PW X (.BoolOp .Or [a] pos) tA:=by
 intro wh pins s σ H Q I h
 refine isTrue_or (thn (ha pins s σ H Q I h) fun c s1 e=>?_)
 cases c with
 | false=>exact isTrue_or_nil e
 | true=>exact e
theorem zRU (ha:PT X a tA) (hb:PW X (.BoolOp .And (b::rest) pos) tB'):PW X (.BoolOp .And (a::b::rest) pos) (tAnd tA tB'):=by
 intro wh pins s σ H Q I h
 refine isTrue_and (thn (ha pins s σ H _ I h) fun c s1 ⟨H1,I1,q1⟩=>?_)
 cases c with
 | true=>exact hb wh pins s1 σ H1 Q I1 q1
 | false=>exact ⟨H1,I1,q1⟩
theorem pw_or (ha:PT X a tA) (hb:PW X (.BoolOp .Or (b::rest) pos) tB'):PW X (.BoolOp .Or (a::b::rest) pos) (tOr tA tB'):=by
 intro wh pins s σ H Q I h
 refine isTrue_or (thn (ha pins s σ H _ I h) fun c s1 ⟨H1,I1,q1⟩=>?_)
 cases c with
 | true=>exact ⟨H1,I1,q1⟩
 | false=>exact hb wh pins s1 σ H1 Q I1 q1
theorem zRV (ha:PT X a tA):PT X (.UnaryOp .Not a pos) (tNot tA):=by
 intro pins s σ H Q I h
 exact isTrue_not (ha pins s σ H (fun c H1=>Q (!c) H1) I h)
noncomputable def tAndV (ta tb:TE):TE:=fun σ H Q=>ta σ H fun x H1=>∃ c,x=.bl c∧if c=true then tb σ H1 Q else Q (.bl false) H1
noncomputable def tNotV (ta:TE):TE:=fun σ H Q=>ta σ H fun x H1=>∃ c,x=.bl c∧Q (.bl (!c)) H1
theorem zRW {op} {t:TE} (h:PE X a t):PE X (.BoolOp op [a] pos) t:=fun pins s σ H Q I hw=>BoolOp_one (h pins s σ H Q I hw)
theorem zRX (ha:PE X a ta) (hb:PE X (.BoolOp .And (b::rest) pos) tb):PE X (.BoolOp .And (a::b::rest) pos) (tAndV ta tb):=by
 intro pins s σ H Q I h
 refine BoolOp_and (thn (ha pins s σ H _ I h) fun v s1 ⟨x,H1,I1,r1,q1⟩=>?_)
 obtain ⟨c,rfl,q1⟩:=q1
 cases r1
 refine wpAny_truthy_bool ?_
 cases c with
 | true=>exact hb pins s1 σ H1 Q I1 q1
 | false=>exact ⟨.bl false,H1,I1,rfl,q1⟩
theorem zRY (ha:PE X a ta):PE X (.UnaryOp .Not a pos) (tNotV ta):=by
 intro pins s σ H Q I h
 refine UnaryOp_ (thn (ha pins s σ H _ I h) fun v s1 ⟨x,H1,I1,r1,q1⟩=>?_)
 obtain ⟨c,rfl,q1⟩:=q1
 cases r1
 exact not_of (wpAny_truthy_bool ⟨.bl (!c),H1,I1,rfl,q1⟩)
noncomputable def tIf (t:TT) (ta tb:TE):TE:=fun σ H Q=>t σ H fun c H1=>if c=true then ta σ H1 Q else tb σ H1 Q
theorem zMX {c:Expr} (hc:PT X c tA) (ha:PE X a ta) (hb:PE X b tb):PE X (.IfExp c a b pos) (tIf tA ta tb):=by
 intro pins s σ H Q I h
 refine wpAny_IfExp (thn (hc pins s σ H _ I h) fun d s1 ⟨H1,I1,q1⟩=>?_)
 cases d with
 | true=>exact ha pins s1 σ H1 Q I1 q1
 | false=>exact hb pins s1 σ H1 Q I1 q1
end
end L2
namespace L2
open PySem PySem.Spec PyProof.Rows
noncomputable def SqL (K:PySem.W.Frag) (H:Hp) (a:Addr) (xs:List V):Prop :=
 Rd H a (.lst xs) ∨
  ∃ (o:Obj) (its:Array Value) (n:Nat),K.lookup a=some o∧o.cls=.type "list"∧o.dict=none∧o.data=.seq its n∧its.size≤sizeLine∧Vals xs its.toList
noncomputable def SqT (K:PySem.W.Frag) (H:Hp) (a:Addr) (xs:List V):Prop :=
 Rd H a (.tup xs) ∨
  ∃ (o:Obj) (its:Array Value) (n:Nat),K.lookup a=some o∧o.cls=.type "tuple"∧o.data=.seq its n∧its.size≤sizeLine∧Vals xs its.toList
noncomputable def absV:Value→Option V
 | .none=>some .non
 | .bool b=>some (.bl b)
 | .int i _=>some (.int i)
 | .str x _=>some (.str x)
 | .bytes b _=>some (.byt b)
 | .float b _=>some (.flt b)
 | .ref a=>some (.ref a)
 | .type n=>some (.ty n)
 | _=>none
theorem RelV.abs {x:V} {u:Value} (r:RelV x u):absV u=some x:=by
 cases x with
 | non=>cases r; rfl
 | bl _=>cases r; rfl
 | int _=>obtain ⟨t,rfl⟩:=r; rfl
 | str _=>obtain ⟨t,rfl⟩:=r; rfl
 | byt _=>obtain ⟨t,rfl⟩:=r; rfl
 | flt _=>obtain ⟨t,rfl⟩:=r; rfl
 | ref _=>cases r; rfl
 | ty _=>cases r; rfl
theorem RelV.inj {x y:V} {u:Value} (r:RelV x u) (q:RelV y u):x=y:=Option.some.inj (r.abs.symm.trans q.abs)
theorem Vals.inj:∀ {xs ys:List V} {us:List Value},Vals xs us→Vals ys us→xs=ys
 | _,_,_,.nil,.nil=>rfl
 | _,_,_,.cons r t,.cons r' t'=>by rw [r.inj r',Vals.inj t t']
section
variable {X:Cx} {pins:List (Addr × Obj)} {σ:St} {H:Hp} {s:Shared} {a:Addr} {xs ys:List V}
theorem SqL.of {K:PySem.W.Frag} (h:H a=some (.lst xs)):SqL K H a xs:=.inl (.inl h)
theorem SqT.of {K:PySem.W.Frag} (h:H a=some (.tup xs)):SqT K H a xs:=.inl (.inl h)
theorem Inv.list (I:Inv X pins σ H s) (h:SqL X.K H a xs):∃ its:List Value,Vals xs its∧PlainL s.heap a its.toArray∧xs.length≤sizeLine:=by
 rcases h with h | ⟨o,its,n,hk,hc,hd,hs,hz,r⟩
 ·obtain ⟨z,its,n,r,e⟩:=h.ok I.hok
  exact ⟨its,r,⟨_,n,e,rfl,rfl,rfl⟩,z⟩
 ·refine ⟨its.toList,r,⟨o,n,I.kIn a o hk,hc,hd,by simpa using hs⟩,?_⟩
  have e:=r.length
  simp only [Array.length_toList] at e
  omega
theorem Inv.tuple (I:Inv X pins σ H s) (h:SqT X.K H a xs):∃ its:List Value,Vals xs its∧IsTup s.heap a its.toArray∧xs.length≤sizeLine:=by
 rcases h with h | ⟨o,its,n,hk,hc,hs,hz,r⟩
 ·obtain ⟨z,its,r,p⟩:=h.ok I.hok
  exact ⟨its,r,p.isTup,z⟩
 ·refine ⟨its.toList,r,⟨o,I.kIn a o hk,hc,n,by simpa using hs⟩,?_⟩
  have e:=r.length
  simp only [Array.length_toList] at e
  omega
theorem Inv.list_inj (I:Inv X pins σ H s) (h:SqL X.K H a xs) (h':SqL X.K H a ys):xs=ys:=by
 obtain ⟨its,r,⟨o,n,e,_,_,d⟩,_⟩:=I.list h
 obtain ⟨its',r',⟨o',n',e',_,_,d'⟩,_⟩:=I.list h'
 rw [e] at e'; cases e'
 rw [d] at d'
 injection d' with d1 _
 have:its=its':=by simpa using congrArg Array.toList d1
 subst this
 exact r.inj r'
theorem Inv.tuple_inj (I:Inv X pins σ H s) (h:SqT X.K H a xs) (h':SqT X.K H a ys):xs=ys:=by
 obtain ⟨its,r,⟨o,e,_,n,d⟩,_⟩:=I.tuple h
 obtain ⟨its',r',⟨o',e',_,n',d'⟩,_⟩:=I.tuple h'
 rw [e] at e'; cases e'
 rw [d] at d'
 injection d' with d1 _
 have:its=its':=by simpa using congrArg Array.toList d1
 subst this
 exact r.inj r'
end
noncomputable abbrev Cx.wish (X:Cx) (E:Value→Shared→Prop):Cx:={ X with xe:=E }
noncomputable abbrev Cx.nox (X:Cx):Cx:=X.wish fun _ _=>False
theorem Cx.Ok.wish {X:Cx} (ok:X.Ok) (E:Value→Shared→Prop):(X.wish E).Ok :=
 ⟨ok.mod,ok.kind,ok.glob,ok.blt,ok.above,ok.inj,ok.has,ok.cab,ok.hd,ok.frames,ok.stk,ok.exf,ok.bs,ok.bsz,ok.noex,ok.exfs,ok.funs,ok.frf⟩
theorem Cx.Ok.unwish {X:Cx} {E:Value→Shared→Prop} (ok:(X.wish E).Ok):X.Ok :=
 ⟨ok.mod,ok.kind,ok.glob,ok.blt,ok.above,ok.inj,ok.has,ok.cab,ok.hd,ok.frames,ok.stk,ok.exf,ok.bs,ok.bsz,ok.noex,ok.exfs,ok.funs,ok.frf⟩
section
variable {X:Cx} {pins:List (Addr × Obj)} {σ:St} {H:Hp} {s:Shared} {E:Value→Shared→Prop}
theorem Inv.wish (I:Inv X pins σ H s) (E:Value→Shared→Prop):Inv (X.wish E) pins σ H s:=⟨I.ok.wish E,I.os,I.bare,I.base,I.loc,I.cell,I.free,I.freeC,I.pin,I.hok,I.len⟩
theorem Inv.unwish (I:Inv (X.wish E) pins σ H s):Inv X pins σ H s:=⟨I.ok.unwish,I.os,I.bare,I.base,I.loc,I.cell,I.free,I.freeC,I.pin,I.hok,I.len⟩
theorem SP.unwish {D:Ends} {f:Flow} {s':Shared} (h:SP (X.wish E) pins D f s'):SP X pins D f s':=by
 cases f with
 | next=>obtain ⟨σ',H',I,q⟩:=h; exact ⟨σ',H',I.unwish,q⟩
 | brk=>obtain ⟨σ',H',I,q⟩:=h; exact ⟨σ',H',I.unwish,q⟩
 | cont=>obtain ⟨σ',H',I,q⟩:=h; exact ⟨σ',H',I.unwish,q⟩
 | ret u=>obtain ⟨v,σ',H',I,r,q⟩:=h; exact ⟨v,σ',H',I.unwish,r,q⟩
theorem PSs.nox {st:List Stmt} {t:TS} (h:PSs X.nox st t):PSs X st t:=fun pins s σ H D I hw =>
 wpAny_mono (h pins s σ H D (I.wish _) hw) (fun _ _ q=>q.unwish) fun _ _ z=>False.elim z
end
section
variable {X:Cx} {st:Stmt} {rest:List Stmt} {t u:TS} {e:Expr} {te:TE} {pos:Pos}
noncomputable def tNext:TS:=fun D σ H=>D.nx σ H
noncomputable def tSeq (t u:TS):TS:=fun D σ H=>t { D with nx:=u D } σ H
theorem pss_nil:PSs X [] tNext:=fun _ _ σ H _ I h=>wpAny_execs_nil ⟨σ,H,I,h⟩
theorem zD0 (h1:PS X st t) (h2:PSs X rest u):PSs X (st::rest) (tSeq t u):=by
 intro pins s σ H D I h
 refine wpAny_execs_cons (thn (h1 pins s σ H { D with nx:=u D } I h) fun f s1 q=>?_)
 cases f with
 | next =>
  obtain ⟨σ',H',I',q⟩:=q
  exact h2 pins s1 σ' H' D I' q
 | ret v=>exact q
 | brk=>exact q
 | cont=>exact q
theorem zHY (h1:PS X st t):PSs X [st] t:=by
 intro pins s σ H D I h
 refine wpAny_execs_cons (thn (h1 pins s σ H D I h) fun f s1 q=>?_)
 cases f with
 | next=>exact wpAny_execs_nil q
 | ret v=>exact q
 | brk=>exact q
 | cont=>exact q
theorem Inv.quiet {pins:List (Addr × Obj)} {σ:St} {H:Hp} {s:Shared} (I:Inv X pins σ H s):interactive X.env=false:=by simp [interactive,I.ok.kind]
noncomputable def tDrop (te:TE):TS:=fun D σ H=>te σ H fun _ H1=>D.nx σ H1
theorem zKP (he:PE X e te) (hs:swapsWith e none pos.line X.env=pure false:=by rfl):PS X (.Expr e pos) (tDrop te):=by
 intro pins s σ H D I h
 exact wpAny_Expr_any (thn (he pins s σ H _ I h) fun v s1 ⟨x,H1,I1,r1,q1⟩=>⟨σ,H1,I1,q1⟩) I.quiet hs
noncomputable def tRet (te:TE):TS:=fun D σ H=>te σ H D.rt
theorem zKQ (he:PE X e te):PS X (.Return (some e) pos) (tRet te):=by
 intro pins s σ H D I h
 exact wpAny_Return_some (thn (he pins s σ H _ I h) fun v s1 ⟨x,H1,I1,r1,q1⟩=>⟨x,σ,H1,I1,r1,q1⟩)
noncomputable def tIfS (c:TT) (t u:TS):TS:=fun D σ H=>c σ H fun b H1=>if b=true then t D σ H1 else u D σ H1
theorem ps_if {c:Expr} {a b:List Stmt} {tc:TT} (hc:PT X c tc) (ha:PSs X a t) (hb:PSs X b u):PS X (.If c a b pos) (tIfS tc t u):=by
 intro pins s σ H D I h
 refine wpAny_If (thn (hc pins s σ H _ I h) fun d s1 ⟨H1,I1,q1⟩=>?_)
 cases d with
 | true=>exact ha pins s1 σ H1 D I1 q1
 | false=>exact hb pins s1 σ H1 D I1 q1
end
noncomputable abbrev TG:=V→St→Hp→(St→Hp→Prop)→Prop
noncomputable abbrev TGs:=List V→St→Hp→(St→Hp→Prop)→Prop
noncomputable def PG (X:Cx) (target:Expr) (t:TG):Prop :=
 ∀ (pins:List (Addr × Obj)) (s:Shared) (σ:St) (H:Hp) (v:V) (u:Value) (Q:St→Hp→Prop),Inv X pins σ H s→RelV v u→t v σ H Q →
  wpAny (model X.prog X.w) X.A (assign target X.env u) (fun _ s'=>∃ σ' H',Inv X pins σ' H' s'∧Q σ' H') X.xe s
noncomputable def PGs (X:Cx) (ts:List Expr) (t:TGs):Prop :=
 ∀ (pins:List (Addr × Obj)) (s:Shared) (σ:St) (H:Hp) (vs:List V) (us:List Value) (Q:St→Hp→Prop),Inv X pins σ H s→Vals vs us→t vs σ H Q →
  wpAny (model X.prog X.w) X.A (assignInOrder ((assignEach ts X.env).map (·.2)) us) (fun _ s'=>∃ σ' H',Inv X pins σ' H' s'∧Q σ' H') X.xe s
noncomputable abbrev TSet:=V→V→V→Hp→(Hp→Prop)→Prop
noncomputable def PSet (X:Cx) (t:TSet):Prop :=
 ∀ (pins:List (Addr × Obj)) (s:Shared) (σ:St) (H:Hp) (o i v:V) (ov iv u:Value) (Q:Hp→Prop),Inv X pins σ H s→RelV o ov→RelV i iv→RelV v u→t o i v H Q →
  wpAny (model X.prog X.w) X.A (setItem ov iv u) (fun _ s'=>∃ H',Inv X pins σ H' s'∧Q H') X.xe s
section
variable {X:Cx} {pos:Pos}
noncomputable def gName (i:Nat):TG:=fun v σ H Q=>Q (σ.set i (some v)) H
theorem zDG {i:Nat} {x:Str} (hN:X.N.Nodup) (hi:X.N[i]?=some x) (hx:Loc X.env.scope x) (hf:X.fn x=true∨X.env.scope.names.lookup x=some .local:=by first | exact .inl rfl | exact .inr rfl | assumption):PG X (.Name x pos) (gName i):=by
 intro pins s σ H v u Q I r h
 exact wpAny_assign_Name (zIX I hN hi hx r (fun s' I'=>⟨_,H,I',h⟩) hf)
noncomputable def gNil:TGs:=fun vs σ H Q=>vs=[]∧Q σ H
noncomputable def gCons (t:TG) (u:TGs):TGs:=fun vs σ H Q=>∃ v r,vs=v::r∧t v σ H fun σ' H'=>u r σ' H' Q
theorem pgs_nil:PGs X [] gNil:=by
 intro pins s σ H vs us Q I r h
 obtain ⟨e,h⟩:=h
 subst e
 cases r
 exact assignInOrder_nil ⟨σ,H,I,h⟩
theorem zC6 {e:Expr} {es:List Expr} {t:TG} {u:TGs} (h1:PG X e t) (h2:PGs X es u)
  (hs:(assignEach (e::es) X.env).map (·.2)=assign e X.env::(assignEach es X.env).map (·.2):=by rfl):PGs X (e::es) (gCons t u):=by
 intro pins s σ H vs us Q I r h
 obtain ⟨v,vr,e1,h⟩:=h
 subst e1
 cases r with
 | cons r rr =>
  rw [hs]
  refine assignInOrder_cons (thn (h1 pins s σ H _ _ _ I r h) fun _ s1 ⟨σ1,H1,I1,q1⟩=>?_)
  exact h2 pins s1 σ1 H1 _ _ Q I1 rr q1
noncomputable def gTup (K:PySem.W.Frag) (n:Nat) (t:TGs):TG:=fun v σ H Q=>∃ a xs,v=.ref a∧SqT K H a xs∧xs.length=n∧t xs σ H Q
theorem zKR {es:List Expr} {k:Nat} {t:TGs} {n:Nat} (hc:X.calm=true) (h:PGs X es t)
  (hn:(assignEach es X.env).length=n:=by rfl) (hst:(assignEach es X.env).findIdx? (·.1)=none:=by rfl):PG X (.Tuple es k pos) (gTup X.K n t):=by
 intro pins s σ H v u Q I r hw
 obtain ⟨a,xs,e1,hq,hl,hw⟩:=hw
 subst e1
 cases r
 obtain ⟨its,rv,ht,hz⟩:=I.tuple hq
 refine assign_Tuple_tuple (I.ok.hd hc) ht (by simp [hn,← hl,rv.length]) hst fun h' hx=>?_
 have I1:Inv X pins σ H { s with heap:=h' }:=I.kept (t':=s.toks) fun b o e=>hx b o (Nat.ne_of_lt (Heap.lt_size e)) e
 exact h pins _ σ H xs _ Q I1 (by simpa using rv) hw
noncomputable def gSub (to ti:TE) (t:TSet):TG:=fun v σ H Q=>to σ H fun o H1=>ti σ H1 fun i H2=>t o i v H2 fun H3=>Q σ H3
theorem zRZ {o i:Expr} {to ti:TE} {t:TSet} (ho:PE X o to) (hi:PE X i ti) (hs:PSet X t)
  (ha:∀ v,assign (.Subscript o i pos) X.env v=(do
   let ov ← holding [v] (eval o X.env)
   let iv ← holding [v,ov] (eval i X.env)
   standAt pos
   holding [v,ov,iv] (setItem ov iv v)
   release [v,ov,iv] []):=by intro _; rfl):PG X (.Subscript o i pos) (gSub to ti t):=by
 intro pins s σ H v u Q I r h
 rw [ha]
 refine wpAny_bind (wpAny_holding (thn (ho pins s σ H _ I h) fun ov s1 ⟨x,H1,I1,r1,q1⟩=>?_))
 refine wpAny_bind (wpAny_holding (thn (hi pins s1 σ H1 _ I1 q1) fun iv s2 ⟨y,H2,I2,r2,q2⟩=>?_))
 refine wpAny_bind (wpAny_standAt (wpAny_bind (wpAny_holding (thn (hs pins s2 σ H2 x y v ov iv u _ I2 r1 r2 r q2) fun _ s3 ⟨H3,I3,q3⟩=>?_))))
 exact wpAny_release ⟨σ,H3,I3,q3⟩
noncomputable def tAsg (te:TE) (g:TG):TS:=fun D σ H=>te σ H fun x H1=>g x σ H1 D.nx
theorem zKS {tg e:Expr} {te:TE} {g:TG} (he:PE X e te) (hg:PG X tg g) (hs:swapsWithSole [tg] e pos.line X.env=pure false:=by rfl) (hw:swappedStores [tg] e X.env=pure none:=by rfl)
  (h1:(assignEach [tg] X.env).map (·.2)=[assign tg X.env]:=by rfl):PS X (.Assign [tg] e pos) (tAsg te g):=by
 intro pins s σ H D I h
 refine wpAny_Assign_stores (thn (he pins s σ H _ I h) fun v s1 ⟨x,H1,I1,r1,q1⟩=>?_) hs hw
 rw [h1]
 exact thn (hg pins s1 σ H1 x v _ I1 r1 q1) fun _ s2 q=>q
theorem zON {i:Nat} {x:Str} {e:Expr} {te:TE} {pos':Pos} (hN:X.N.Nodup) (hi:X.N[i]?=some x) (hx:Loc X.env.scope x) (he:PE X e te) (hs:swapsWith e (some (.Name x pos')) pos.line X.env=pure false:=by rfl) (hf:X.fn x=true∨X.env.scope.names.lookup x=some .local:=by first | exact .inl rfl | exact .inr rfl | assumption) :
  PS X (.Assign [.Name x pos'] e pos) (tAsg te (gName i)):=by
 intro pins s σ H D I h
 refine wpAny_Assign_Name (thn (he pins s σ H _ I h) fun v s1 ⟨y,H1,I1,r1,q1⟩=>?_) hs
 exact zIX I1 hN hi hx r1 (fun s2 I2=>⟨_,H1,I2,q1⟩) hf
end
section
variable {X:Cx} {pos:Pos}
noncomputable def zR0 (c:TT) (tb:TS):TS:=fun D σ H=>∃ W:Nat→St→Hp→Prop,(∃ m,W m σ H)∧∀ m σ H,W m σ H →
 c σ H fun b H1=>if b=true then ∃ N:St→Hp→Prop,(∀ σ' H',N σ' H'→∃ m',m'<m∧W m' σ' H')∧tb { D with nx:=N,ct:=N,bk:=D.nx } σ H1 else D.nx σ H1
theorem zMY {c:Expr} {body:List Stmt} {tc:TT} {tb:TS} (hp:PassesOwn (model X.prog X.w) X.A X.env X.xe) (hc:PT X c tc) (hb:PSs X body tb):PS X (.While c body [] pos) (zR0 tc tb):=by
 intro pins s σ H D I h
 obtain ⟨W,⟨m0,w0⟩,turn⟩:=h
 refine wpAny_While (codeAny_whileLoop (fun n s'=>∃ σ' H',Inv X pins σ' H' s'∧W n σ' H') ?_ m0 ⟨σ,H,I,w0⟩)
 rintro n s1 ⟨σ1,H1,I1,w1⟩
 refine wpAny_passesOwn hp (thn (hc pins s1 σ1 H1 _ I1 (turn n σ1 H1 w1)) fun b s2 ⟨H2,I2,q2⟩=>?_)
 cases b with
 | true =>
  obtain ⟨N,hN,q2⟩:=q2
  rw [if_pos rfl]
  refine wpAny_passesOwn hp (thn (hb pins s2 σ1 H2 _ I2 q2) fun f s3 q3=>?_)
  cases f with
  | next =>
   obtain ⟨σ3,H3,I3,n3⟩:=q3
   obtain ⟨m',hm,w3⟩:=hN σ3 H3 n3
   exact ⟨m',hm,σ3,H3,I3,w3⟩
  | cont =>
   obtain ⟨σ3,H3,I3,n3⟩:=q3
   obtain ⟨m',hm,w3⟩:=hN σ3 H3 n3
   exact ⟨m',hm,σ3,H3,I3,w3⟩
  | brk=>exact q3
  | ret v=>exact q3
 | false =>
  rw [if_neg Bool.false_ne_true]
  exact wpAny_execs_nil ⟨σ1,H2,I2,q2⟩
end
structure It where
 go:Nat→Hp→Prop
 yld:Nat→Hp→V→Hp→Prop
 stop:Nat→Hp→Prop
noncomputable def FpOk (X:Cx) (pins:List (Addr × Obj)) (H:Hp) (b:Addr):Prop :=
 H b=none∧b≠X.env.locals∧b∉X.fs∧(b∈X.ex∨X.s₀.heap.objs.size≤b)∧(∀ x c,X.env.cells.lookup x=some c→c≠b)∧∀ p∈X.pn++pins,p.1≠b
theorem Inv.fpOk {X:Cx} {pins:List (Addr × Obj)} {σ:St} {H H':Hp} {s:Shared} {b:Addr} (I:Inv X pins σ H s) (hb:s.heap.objs.size≤b) (hn:H' b=none):FpOk X pins H' b:=by
 refine ⟨hn,Nat.ne_of_gt (Nat.lt_of_lt_of_le I.lt hb),I.nofs hb,.inr (Nat.le_trans I.sz hb),fun x c e z=>?_,fun p hp z=>?_⟩
 ·obtain ⟨v,q⟩:=I.cell x c e
  exact absurd (Nat.lt_of_lt_of_le q.lt (by rw [z]; exact hb)) (Nat.lt_irrefl _)
 ·exact absurd (Nat.lt_of_lt_of_le (Heap.lt_size (I.pin p hp).1) (by rw [z]; exact hb)) (Nat.lt_irrefl _)
structure Turn (P:Program) (w:World) (K:PySem.W.Frag) (tg:Expr) (J:It) (fp:List Addr) (it:Addr) (tn:Nat→Heap→Prop):Prop where
 mem:it∈fp
 obj:∀ i h,tn i h→∀ b∈fp,∃ o,h.get? b=some o∧∀ v,o.data≠.cell v
 keep:∀ i h h',tn i h→(∀ b∈fp,∀ o,h.get? b=some o→h'.get? b=some o)→tn i h'
 item:∀ (X:Cx),X.prog=P→X.w=w→X.K=K→X.calm=true→∀ (i:Nat) (pins:List (Addr × Obj)) (s:Shared) (σ:St) (H:Hp) (E:Value→Shared→Prop),Inv X pins σ H s→(∀ b∈fp,FpOk X pins H b)→tn i s.heap→J.go i H →
  wpAny (model P w) X.A (pyNext (.ref it)) (fun r s1=>∃ u,r=some u ∧
   wpAny (model P w) X.A (letOwnedTupleGo tg (.ref it) u) (fun _ s2=>∃ x H',Inv X pins σ H' s2∧RelV x u∧J.yld i H x H'∧tn (i+1) s2.heap∧∀ b∈fp,H' b=none) E s1) E s
 done:∀ (X:Cx),X.prog=P→X.w=w→X.K=K→X.calm=true→∀ (i:Nat) (pins:List (Addr × Obj)) (s:Shared) (σ:St) (H:Hp) (E:Value→Shared→Prop),Inv X pins σ H s→(∀ b∈fp,FpOk X pins H b)→tn i s.heap→J.stop i H →
  wpAny (model P w) X.A (pyNext (.ref it)) (fun r s1=>r=none∧Inv X pins σ H s1) E s
 self:∀ (A:Around) (i:Nat) (s:Shared) (Q:Value→Shared→Prop) (E:Value→Shared→Prop),tn i s.heap→Q (.ref it) s→wpAny (model P w) A (pyIter (.ref it)) Q E s
noncomputable abbrev TI:=St→Hp→(It→Hp→Prop)→Prop
noncomputable def PIE (X:Cx) (pins:List (Addr × Obj)) (σ:St) (tg:Expr) (R:It→Hp→Prop) (itv:Value) (s2:Shared):Prop :=
 ∃ (it:Addr) (fp:List Addr) (tn:Nat→Heap→Prop) (J:It) (H':Hp),itv=.ref it∧Inv X pins σ H' s2∧Turn X.prog X.w X.K tg J fp it tn∧tn 0 s2.heap∧(∀ b∈fp,FpOk X pins H' b)∧R J H'
noncomputable def PI (X:Cx) (tg iter:Expr) (wi:TI):Prop :=
 ∀ (pins:List (Addr × Obj)) (s:Shared) (σ:St) (H:Hp) (R:It→Hp→Prop),Inv X pins σ H s→wi σ H R →
  wpAny (model X.prog X.w) X.A (eval iter X.env) (fun v s1=>wpAny (model X.prog X.w) X.A (pyIter v) (PIE X pins σ tg R) X.xe s1) X.xe s
theorem go_of {M : Model} {A : Around} {E : Value → Shared → Prop} {s : Shared} {tg : Expr} {it : Addr} {u : Value} {o : Obj} {n : String} {vs : Array Value} {Q : Unit → Shared → Prop} (ho : s.heap.get? it = some o) (hc : o.cls = .type n) (hd : o.data = .fields vs)
    (hn : ["enumerate", "zip", "dict_itemiterator", "dict_reverseitemiterator", "odict_iterator", "itertools.zip_longest", "itertools.pairwise"].contains n = false) (hQ : Q () s) : wpAny M A (letOwnedTupleGo tg (.ref it) u) Q E s := by
  unfold letOwnedTupleGo
  cases tg <;> first
    | exact wpAny_pure hQ
    | (cases u <;> first
        | exact wpAny_pure hQ
        | (refine wpAny_bind (wpAny_load ho ?_)
           rw [hc, hd]
           show wpAny M A (if (["enumerate", "zip", "dict_itemiterator", "dict_reverseitemiterator", "odict_iterator", "itertools.zip_longest", "itertools.pairwise"].contains n && vs[0]? == some (rawInt _)) = true then _ else _) Q E s
           rw [if_neg (by intro h; rw [hn, Bool.false_and] at h; cases h)]
           exact wpAny_pure hQ))
noncomputable def Itl (K:PySem.W.Frag) (a:Addr):It :=
 ⟨fun i H=>∃ xs x,SqL K H a xs∧xs[i]?=some x,fun i H x H'=>H'=H∧∀ xs,SqL K H a xs→xs[i]?=some x,fun i H=>∃ xs,SqL K H a xs∧xs.length≤i⟩
noncomputable def Itt (K:PySem.W.Frag) (a:Addr):It :=
 ⟨fun i H=>∃ xs x,SqT K H a xs∧xs[i]?=some x,fun i H x H'=>H'=H∧∀ xs,SqT K H a xs→xs[i]?=some x,fun i H=>∃ xs,SqT K H a xs∧xs.length≤i⟩
noncomputable def Itr (lo:Int) (n:Nat):It:=⟨fun i _=>i<n,fun i H x H'=>H'=H∧x=.int (lo+i),fun i _=>n≤i⟩
theorem zKT {P:Program} {w:World} {K:PySem.W.Frag} {tg:Expr} (a it:Addr):Turn P w K tg (Itl K a) [it] it (fun i h=>h.IsListIter it a i) where
 mem:=by simp
 obj:=fun i h st b hb=>by
  have e:b=it:=by simpa using hb
  subst e
  obtain ⟨o,e,c,d⟩:=st
  exact ⟨o,e,fun v z=>by rw [d] at z; cases z⟩
 keep:=fun i h h' st k=>st.at fun o e=>k it (by simp) o e
 item:=by
  intro X hP hw hK hc i pins s σ H E I hf st hg
  subst hP hw hK
  obtain ⟨xs,x,hq,hx⟩:=hg
  obtain ⟨its,rv,p,hz⟩:=I.list hq
  obtain ⟨u,hu,ru⟩:=rv.get hx
  obtain ⟨f0,f1,f2,f3,f4,f5⟩:=hf it (by simp)
  refine wpAny_pyNext_list_item st p.isList (x:=u) (by simpa using hu) fun h' st' sb=>?_
  have I1:Inv X pins σ H { s with heap:=h' }:=I.turned (t':=s.toks) (fun b o hb e=>(sb.2 b hb).trans e) f0 f1 f3 f4 f5
  obtain ⟨o,e,c,d⟩:=id st'
  exact ⟨u,rfl,go_of (s:={ s with heap:=h' }) e c d (by decide) ⟨x,H,I1,ru,⟨rfl,fun ys hy=>by rw [I.list_inj hy hq]; exact hx⟩,st',fun b hb=>(hf b hb).1⟩⟩
 done:=by
  intro X hP hw hK hc i pins s σ H E I hf st hg
  subst hP hw hK
  obtain ⟨xs,hq,hx⟩:=hg
  obtain ⟨its,rv,p,hz⟩:=I.list hq
  obtain ⟨f0,f1,f2,f3,f4,f5⟩:=hf it (by simp)
  have hl:=rv.length
  exact wpAny_pyNext_list_end (I.ok.hd hc) st p.isList (by simp; omega) fun h' eb=>⟨rfl,I.turned (t':=s.toks) (fun b o hb e=>eb b o hb e) f0 f1 f3 f4 f5⟩
 self:=fun _ _ _ _ _ st h=>wpAny_pyIter_listiter st h
theorem zJX {P:Program} {w:World} {K:PySem.W.Frag} {tg:Expr} (a it:Addr):Turn P w K tg (Itt K a) [it] it (fun i h=>h.IsTupleIter it a i) where
 mem:=by simp
 obj:=fun i h st b hb=>by
  have e:b=it:=by simpa using hb
  subst e
  obtain ⟨o,e,c,d⟩:=st
  exact ⟨o,e,fun v z=>by rw [d] at z; cases z⟩
 keep:=fun i h h' st k=>st.at fun o e=>k it (by simp) o e
 item:=by
  intro X hP hw hK hc i pins s σ H E I hf st hg
  subst hP hw hK
  obtain ⟨xs,x,hq,hx⟩:=hg
  obtain ⟨its,rv,p,hz⟩:=I.tuple hq
  obtain ⟨u,hu,ru⟩:=rv.get hx
  obtain ⟨f0,f1,f2,f3,f4,f5⟩:=hf it (by simp)
  refine wpAny_pyNext_tuple_item st (show s.heap.IsTuple a its.toArray from p) (x:=u) (by simpa using hu) fun h' st' sb=>?_
  have I1:Inv X pins σ H { s with heap:=h' }:=I.turned (t':=s.toks) (fun b o hb e=>(sb.2 b hb).trans e) f0 f1 f3 f4 f5
  obtain ⟨o,e,c,d⟩:=id st'
  exact ⟨u,rfl,go_of (s:={ s with heap:=h' }) e c d (by decide) ⟨x,H,I1,ru,⟨rfl,fun ys hy=>by rw [I.tuple_inj hy hq]; exact hx⟩,st',fun b hb=>(hf b hb).1⟩⟩
 done:=by
  intro X hP hw hK hc i pins s σ H E I hf st hg
  subst hP hw hK
  obtain ⟨xs,hq,hx⟩:=hg
  obtain ⟨its,rv,p,hz⟩:=I.tuple hq
  obtain ⟨f0,f1,f2,f3,f4,f5⟩:=hf it (by simp)
  have hl:=rv.length
  exact wpAny_pyNext_tuple_end (I.ok.hd hc) st (show s.heap.IsTuple a its.toArray from p) (by simp; omega) fun h' eb=>⟨rfl,I.turned (t':=s.toks) (fun b o hb e=>eb b o hb e) f0 f1 f3 f4 f5⟩
 self:=fun _ _ _ _ _ st h=>wpAny_pyIter_tupleiter st h
theorem zJY {P:Program} {w:World} {K:PySem.W.Frag} {tg:Expr} (it:Addr) (lo:Int) (n:Nat):Turn P w K tg (Itr lo n) [it] it (fun i h=>IsRangeIter h it (lo+(i:Nat) * 1) ((n:Int) - (i:Nat)) 1) where
 mem:=by simp
 obj:=fun i h st b hb=>by
  have e:b=it:=by simpa using hb
  subst e
  exact ⟨_,st,fun v z=>by
   have z':Data.fields _=Data.cell v:=z
   cases z'⟩
 keep:=fun i h h' st k=>k it (by simp) _ st
 item:=by
  intro X hP hw hK hc i pins s σ H E I hf st hg
  subst hP hw hK
  obtain ⟨f0,f1,f2,f3,f4,f5⟩:=hf it (by simp)
  have W:=Walks.range (prog:=X.prog) (w:=X.w) (I.ok.hd hc) it lo 1 n
  refine W.item i s _ _ hg st fun v h' tk hv st' kk=>?_
  obtain ⟨t,rfl⟩:=hv
  have I1:Inv X pins σ H { s with heap:=h',toks:=tk }:=I.turned (fun b o hb e=>kk b o (by simpa using hb) e) f0 f1 f3 f4 f5
  refine ⟨_,rfl,go_of (s:={ s with heap:=h',toks:=tk }) (n:="range_iterator") st' rfl rfl (by decide) ⟨.int (lo+i),H,I1,⟨t,?_⟩,⟨rfl,rfl⟩,st',fun b hb=>(hf b hb).1⟩⟩
  rw [Int.mul_one]
 done:=by
  intro X hP hw hK hc i pins s σ H E I hf st hg
  subst hP hw hK
  obtain ⟨f0,f1,f2,f3,f4,f5⟩:=hf it (by simp)
  exact wpAny_pyNext_range_end (I.ok.hd hc) st (by have:n≤i:=hg; omega) fun h' eb=>⟨rfl,I.turned (t':=s.toks) (fun b o hb e=>eb b o hb e) f0 f1 f3 f4 f5⟩
 self:=fun _ _ _ _ _ st h=>wpAny_pyIter_rangeiter st h
end L2
namespace L2
open PySem PySem.Spec PyProof.Rows
section
variable {X:Cx} {tg:Expr}
noncomputable def iList (K:PySem.W.Frag) (tl:TE):TI:=fun σ H R=>tl σ H fun x H1=>∃ a,x=.ref a∧(∃ xs,SqL K H1 a xs)∧R (Itl K a) H1
noncomputable def iTup (K:PySem.W.Frag) (tl:TE):TI:=fun σ H R=>tl σ H fun x H1=>∃ a,x=.ref a∧(∃ xs,SqT K H1 a xs)∧R (Itt K a) H1
theorem zPL {l:Expr} {tl:TE} (hl:PE X l tl):PI X tg l (iList X.K tl):=by
 intro pins s σ H R I h
 refine thn (hl pins s σ H _ I h) fun v s1 ⟨x,H1,I1,r1,q1⟩=>?_
 obtain ⟨a,e,⟨xs,hq⟩,q⟩:=q1
 subst e
 cases r1
 obtain ⟨its,rv,p,hz⟩:=I1.list hq
 refine wpAny_pyIter_list p.isList ?_
 refine ⟨s1.heap.objs.size,[s1.heap.objs.size],_,_,H1,rfl,I1.kept (t':=s1.toks) fun b o e=>Heap.get?_push_of_some _ e,zKT a _,⟨_,Heap.get?_push_size _ rfl,rfl,rfl⟩,fun b hb=>?_,q⟩
 have e:b=s1.heap.objs.size:=by simpa using hb
 subst e
 exact I1.fpOk (Nat.le_refl _) (I1.hok.fresh (Nat.le_refl _))
theorem zOO {l:Expr} {tl:TE} (hl:PE X l tl):PI X tg l (iTup X.K tl):=by
 intro pins s σ H R I h
 refine thn (hl pins s σ H _ I h) fun v s1 ⟨x,H1,I1,r1,q1⟩=>?_
 obtain ⟨a,e,⟨xs,hq⟩,q⟩:=q1
 subst e
 cases r1
 obtain ⟨its,rv,p,hz⟩:=I1.tuple hq
 refine wpAny_pyIter_tuple (show s1.heap.IsTuple a its.toArray from p) ?_
 refine ⟨s1.heap.objs.size,[s1.heap.objs.size],_,_,H1,rfl,I1.kept (t':=s1.toks) fun b o e=>Heap.get?_push_of_some _ e,zJX a _,⟨_,Heap.get?_push_size _ rfl,rfl,rfl⟩,fun b hb=>?_,q⟩
 have e:b=s1.heap.objs.size:=by simpa using hb
 subst e
 exact I1.fpOk (Nat.le_refl _) (I1.hok.fresh (Nat.le_refl _))
theorem zIY {pins:List (Addr × Obj)} {σ:St} {H:Hp} {s:Shared} {R:It→Hp→Prop} {E:Value→Shared→Prop} {lo hi:Int} {t u v:Tok} {tk:Nat} (I:Inv X pins σ H s) (h1:-(2 ^ 62)≤lo) (h2:lo<2 ^ 62) (h3:-(2 ^ 62)≤hi) (h4:hi<2 ^ 62)
  (q:R (Itr lo (hi - lo).toNat) H):wpAny (model X.prog X.w) X.A (pyIter (.ref s.heap.objs.size)) (PIE X pins σ tg R) E { s with heap:=s.heap.push { cls:=.type "range",data:=.fields #[.int lo t,.int hi u,.int 1 v] },toks:=tk }:=by
 refine wpAny_pyIter_range (IsRange.new ..) (small_one h1 h2 h3 h4) ?_
 have I1:Inv X pins σ H { s with heap:=s.heap.push { cls:=.type "range",data:=.fields #[.int lo t,.int hi u,.int 1 v] },toks:=tk }:=I.kept fun b o e=>Heap.get?_push_of_some _ e
 refine ⟨(s.heap.push { cls:=.type "range",data:=.fields #[.int lo t,.int hi u,.int 1 v] }).objs.size,[(s.heap.push { cls:=.type "range",data:=.fields #[.int lo t,.int hi u,.int 1 v] }).objs.size],_,_,H,rfl,
  I1.kept (t':=tk) fun b o e=>Heap.get?_push_of_some _ e,zJY _ lo (hi - lo).toNat,?_,fun b hb=>?_,q⟩
 ·have e1:lo+((0:Nat):Int) * 1=lo:=by simp
  have e2:(((hi - lo).toNat:Nat):Int) - ((0:Nat):Int)=Builtin.Range.rangeSize lo hi 1:=by rw [rangeSize_one]; split <;> omega
  show IsRangeIter _ _ (lo+((0:Nat):Int) * 1) ((((hi - lo).toNat:Nat):Int) - ((0:Nat):Int)) 1
  rw [e1,e2]
  exact Heap.get?_push_size _ rfl
 ·have e:b=(s.heap.push { cls:=.type "range",data:=.fields #[.int lo t,.int hi u,.int 1 v] }).objs.size:=by simpa using hb
  subst e
  exact I1.fpOk (Nat.le_refl _) (I1.hok.fresh (Nat.le_refl _))
noncomputable def iRng1 (ta:TA):TI:=fun σ H R=>ta σ H fun vs H1=>∃ j:Int,vs=[.int j]∧-(2 ^ 62)≤j∧j<2 ^ 62∧R (Itr 0 j.toNat) H1
noncomputable def iRng2 (ta:TA):TI:=fun σ H R=>ta σ H fun vs H1=>∃ i j:Int,vs=[.int i,.int j]∧(-(2 ^ 62)≤i∧i<2 ^ 62∧-(2 ^ 62)≤j∧j<2 ^ 62)∧R (Itr i (j - i).toNat) H1
theorem zGO {a:Expr} {ta:TA} {p pos:Pos} (hg:Gl X "range") (hm:X.mg "range"=none) (ha:PA X [a] ta) (hs:starEach [a] X.env=[(false,eval a X.env)]:=by rfl):PI X tg (.Call (.Name "range" p) [a] [] pos) (iRng1 ta):=by
 intro pins s σ H R I h
 refine Call_ (zD6 I hg hm boot_range (PyProof.Rows.callWith_type1 (thn (ha pos pins s σ H _ I h) fun us s1 ⟨vs,H1,I1,r1,q1⟩=>?_) hs rfl))
 obtain ⟨j,e,q1,q2,q⟩:=q1
 subst e
 cases r1 with
 | cons r rr =>
  cases rr
  obtain ⟨t,rfl⟩:=r
  exact call_range_1 (zIY I1 (by omega) (by omega) q1 q2 (by simpa using q))
theorem zKU {a b:Expr} {ta:TA} {p pos:Pos} (hg:Gl X "range") (hm:X.mg "range"=none) (ha:PA X [a,b] ta) (hs:starEach [a,b] X.env=[(false,eval a X.env),(false,eval b X.env)]:=by rfl) (hs2:starEach [b] X.env=[(false,eval b X.env)]:=by rfl) :
  PI X tg (.Call (.Name "range" p) [a,b] [] pos) (iRng2 ta):=by
 intro pins s σ H R I h
 refine Call_ (zD6 I hg hm boot_range (PyProof.Rows.callWith_type1 (thn (ha pos pins s σ H _ I h) fun us s1 ⟨vs,H1,I1,r1,q1⟩=>?_) (by rw [hs,hs2]) (by rw [hs2]; rfl)))
 obtain ⟨i,j,e,⟨q1,q2,q3,q4⟩,q⟩:=q1
 subst e
 cases r1 with
 | cons r rr =>
  cases rr with
  | cons r' rr =>
   cases rr
   obtain ⟨t,rfl⟩:=r
   obtain ⟨t',rfl⟩:=r'
   exact call_range_2 (zIY I1 q1 q2 q3 q4 q)
noncomputable def tFor (wi:TI) (g:TG) (tb:TS):TS:=fun D σ H=>wi σ H fun J H1=>∃ W:Nat→Nat→St→Hp→Prop,(∃ m,W 0 m σ H1)∧∀ i m σ H,W i m σ H →
 (J.stop i H∧D.nx σ H)∨(J.go i H∧∃ N:St→Hp→Prop,(∀ σ' H',N σ' H'→∃ m',m'<m∧W (i+1) m' σ' H')∧∀ x H',J.yld i H x H'→g x σ H' fun σ2 H2=>tb { D with nx:=N,ct:=N,bk:=D.nx } σ2 H2)
noncomputable def zGP (fp:List Addr) (h:Heap):List (Addr × Obj):=fp.filterMap fun b=>(h.get? b).map fun o=>(b,o)
theorem zCS {fp:List Addr} {h:Heap} {b:Addr} {o:Obj} (hb:b∈fp) (e:h.get? b=some o):(b,o)∈zGP fp h:=List.mem_filterMap.mpr ⟨b,hb,by rw [e]; rfl⟩
theorem zKV {fp:List Addr} {h:Heap} {p:Addr × Obj} (hp:p∈zGP fp h):p.1∈fp∧h.get? p.1=some p.2:=by
 obtain ⟨b,hb,e⟩:=List.mem_filterMap.mp hp
 cases q:h.get? b with
 | none=>rw [q] at e; cases e
 | some o =>
  rw [q] at e
  have e':(b,o)=p:=Option.some.inj e
  subst e'
  exact ⟨hb,q⟩
theorem Inv.pinned {pins:List (Addr × Obj)} {σ:St} {H:Hp} {s:Shared} {fp:List Addr} (I:Inv X pins σ H s) (hf:∀ b∈fp,FpOk X pins H b) (ho:∀ b∈fp,∃ o,s.heap.get? b=some o∧∀ v,o.data≠.cell v):Inv X (pins++zGP fp s.heap) σ H s :=
 I.pins_of fun p hp=>(List.mem_append.mp hp).elim (fun z=>I.pin p (List.mem_append_right _ z)) fun z=>by
  obtain ⟨hb,e⟩:=zKV z
  obtain ⟨f0,f1,f2,_⟩:=hf p.1 hb
  obtain ⟨o,e',d⟩:=ho p.1 hb
  rw [e] at e'; cases e'
  exact ⟨e,f0,f1,f2,d⟩
theorem Inv.unpinned {pins pl:List (Addr × Obj)} {σ:St} {H:Hp} {s:Shared} (I:Inv X (pins++pl) σ H s):Inv X pins σ H s:=I.pins_of fun p hp=>I.pin p (List.mem_append_right _ (List.mem_append_left _ hp))
theorem zOP {iter:Expr} {body:List Stmt} {wi:TI} {g:TG} {tb:TS} {pos:Pos} (hp:PassesOwn (model X.prog X.w) X.A X.env X.xe) (hc:X.calm=true) (hi:PI X tg iter wi) (hg:PG X tg g) (hb:PSs X body tb)
  (hs:∀ x,foldedSetIterable iter X.env x=pure x:=by intro _; rfl):PS X (.For tg iter body [] pos) (tFor wi g tb):=by
 intro pins s σ H D I h
 refine wpAny_For (thn (hi pins s σ H _ I h) fun v s1 h1=>thn h1 fun itv s2 h2=>?_) hs
 obtain ⟨it,fp,tn,J,H2,e,I2,T,st2,f2,W,⟨m0,w0⟩,turn⟩:=h2
 subst e
 -- what stays true of the iterator's objects through the loop
 have stat:∀ {H':Hp},(∀ b∈fp,H' b=none)→∀ b∈fp,FpOk X pins H' b:=fun hn b hb=>⟨hn b hb,(f2 b hb).2⟩
 refine codeAny_forLoop_any (fun n s'=>∃ i σ' H',Inv X pins σ' H' s'∧tn i s'.heap∧(∀ b∈fp,H' b=none)∧W i n σ' H') ?_ m0 ⟨0,σ,H2,I2,st2,fun b hb=>(f2 b hb).1,w0⟩
 rintro n s3 ⟨i,σ3,H3,I3,st3,fr3,w3⟩
 rcases turn i n σ3 H3 w3 with ⟨stop,qn⟩ | ⟨go,N,hN,step⟩
 ·refine wpAny_passesOwn hp (thn (T.done X rfl rfl rfl hc i pins s3 σ3 H3 X.xe I3 (stat fr3) st3 stop) fun r s4 ⟨hr,I4⟩=>?_)
  subst hr
  exact wpAny_execs_nil ⟨σ3,H3,I4,qn⟩
 ·refine wpAny_passesOwn hp (thn (T.item X rfl rfl rfl hc i pins s3 σ3 H3 X.xe I3 (stat fr3) st3 go) fun r s4 ⟨u,hr,h4⟩=>?_)
  subst hr
  refine wpAny_passesOwn hp (thn h4 fun _ s5 ⟨x,H5,I5,r5,y5,st5,fr5⟩=>?_)
  have I5':=I5.pinned (stat fr5) (T.obj _ _ st5)
  refine wpAny_passesOwn hp (thn (hg _ s5 σ3 H5 x u _ I5' r5 (step x H5 y5)) fun _ s6 ⟨σ6,H6,I6,q6⟩=>?_)
  refine wpAny_passesOwn hp (thn (hb _ s6 σ6 H6 _ I6 q6) fun f s7 q7=>?_)
  have again:∀ {σ7:St} {H7:Hp},Inv X (pins++zGP fp s5.heap) σ7 H7 s7→N σ7 H7→∃ m,m<n∧∃ i σ' H',Inv X pins σ' H' s7∧tn i s7.heap∧(∀ b∈fp,H' b=none)∧W i m σ' H':=fun {σ7 H7} I7 n7=>by
   obtain ⟨m',hm,w7⟩:=hN σ7 H7 n7
   refine ⟨m',hm,i+1,σ7,H7,I7.unpinned,T.keep _ _ _ st5 fun b hb o e=>(I7.pin (b,o) (List.mem_append_right _ (List.mem_append_right _ (zCS hb e)))).1,fun b hb=>?_,w7⟩
   obtain ⟨o,e,d⟩:=T.obj _ _ st5 b hb
   exact (I7.pin (b,o) (List.mem_append_right _ (List.mem_append_right _ (zCS hb e)))).2.1
  cases f with
  | next=>obtain ⟨σ7,H7,I7,n7⟩:=q7; exact again I7 n7
  | cont=>obtain ⟨σ7,H7,I7,n7⟩:=q7; exact again I7 n7
  | brk=>obtain ⟨σ7,H7,I7,q7⟩:=q7; exact ⟨σ7,H7,I7.unpinned,q7⟩
  | ret v=>obtain ⟨x7,σ7,H7,I7,r7,q7⟩:=q7; exact ⟨x7,σ7,H7,I7.unpinned,r7,q7⟩
end
theorem zTG {K:PySem.W.Frag} {a:Addr} {xs:List V} {g:TG} {tb:TS} {D:Ends} {σ:St} {H:Hp} (Pv:Nat→St→Hp→Prop) (h0:Pv 0 σ H) (hl:∀ i σ H,i≤xs.length→Pv i σ H→SqL K H a xs)
  (hs:∀ i x σ H,xs[i]?=some x→Pv i σ H→g x σ H fun σ2 H2=>tb { D with nx:=Pv (i+1),ct:=Pv (i+1),bk:=D.nx } σ2 H2) (hd:∀ σ H,Pv xs.length σ H→D.nx σ H) :
  ∃ W:Nat→Nat→St→Hp→Prop,(∃ m,W 0 m σ H)∧∀ i m σ H,W i m σ H →
   ((Itl K a).stop i H∧D.nx σ H)∨((Itl K a).go i H∧∃ N:St→Hp→Prop,(∀ σ' H',N σ' H'→∃ m',m'<m∧W (i+1) m' σ' H')∧∀ x H',(Itl K a).yld i H x H'→g x σ H' fun σ2 H2=>tb { D with nx:=N,ct:=N,bk:=D.nx } σ2 H2):=by
 refine ⟨fun i m σ H=>m=xs.length - i∧i≤xs.length∧Pv i σ H,⟨xs.length,by simp,Nat.zero_le _,h0⟩,?_⟩
 rintro i m σ H ⟨rfl,hi,p⟩
 have q:=hl i σ H hi p
 by_cases hlt:i<xs.length
 ·refine .inr ⟨⟨xs,xs[i],q,by simp [hlt]⟩,Pv (i+1),fun σ' H' p'=>⟨xs.length - (i+1),by omega,rfl,hlt,p'⟩,fun x H' y=>?_⟩
  obtain ⟨e,y⟩:=y
  subst e
  exact hs i x σ _ (y xs q) p
 ·have e:i=xs.length:=by omega
  subst e
  exact .inl ⟨⟨xs,q,Nat.le_refl _⟩,hd σ H p⟩
theorem zPM {K:PySem.W.Frag} {a:Addr} {xs:List V} {g:TG} {tb:TS} {D:Ends} {σ:St} {H:Hp} (Pv:Nat→St→Hp→Prop) (h0:Pv 0 σ H) (hl:∀ i σ H,i≤xs.length→Pv i σ H→SqT K H a xs)
  (hs:∀ i x σ H,xs[i]?=some x→Pv i σ H→g x σ H fun σ2 H2=>tb { D with nx:=Pv (i+1),ct:=Pv (i+1),bk:=D.nx } σ2 H2) (hd:∀ σ H,Pv xs.length σ H→D.nx σ H) :
  ∃ W:Nat→Nat→St→Hp→Prop,(∃ m,W 0 m σ H)∧∀ i m σ H,W i m σ H →
   ((Itt K a).stop i H∧D.nx σ H)∨((Itt K a).go i H∧∃ N:St→Hp→Prop,(∀ σ' H',N σ' H'→∃ m',m'<m∧W (i+1) m' σ' H')∧∀ x H',(Itt K a).yld i H x H'→g x σ H' fun σ2 H2=>tb { D with nx:=N,ct:=N,bk:=D.nx } σ2 H2):=by
 refine ⟨fun i m σ H=>m=xs.length - i∧i≤xs.length∧Pv i σ H,⟨xs.length,by simp,Nat.zero_le _,h0⟩,?_⟩
 rintro i m σ H ⟨rfl,hi,p⟩
 have q:=hl i σ H hi p
 by_cases hlt:i<xs.length
 ·refine .inr ⟨⟨xs,xs[i],q,by simp [hlt]⟩,Pv (i+1),fun σ' H' p'=>⟨xs.length - (i+1),by omega,rfl,hlt,p'⟩,fun x H' y=>?_⟩
  obtain ⟨e,y⟩:=y
  subst e
  exact hs i x σ _ (y xs q) p
 ·have e:i=xs.length:=by omega
  subst e
  exact .inl ⟨⟨xs,q,Nat.le_refl _⟩,hd σ H p⟩
end L2
namespace L2
open PySem PySem.Spec PyProof.Rows
noncomputable abbrev R2:=V→V→Hp→VK→Prop
noncomputable def OpR (X:Cx) (f:Value→Value→Sem Value) (r:R2):Prop :=
 ∀ (pins:List (Addr × Obj)) (s:Shared) (σ:St) (H:Hp) (x y:V) (v u:Value) (Q:VK),Inv X pins σ H s→RelV x v→RelV y u→r x y H Q →
  wpAny (model X.prog X.w) X.A (f v u) (EP X pins σ Q) X.xe s
noncomputable def CallR (X:Cx) (f:Value) (r:List V→Hp→VK→Prop):Prop :=
 ∀ (pins:List (Addr × Obj)) (s:Shared) (σ:St) (H:Hp) (xs:List V) (us:List Value) (Q:VK),Inv X pins σ H s→Vals xs us→r xs H Q →
  wpAny (model X.prog X.w) X.A (call f us) (EP X pins σ Q) X.xe s
noncomputable def TruR (X:Cx) (r:V→Hp→(Bool→Hp→Prop)→Prop):Prop :=
 ∀ (pins:List (Addr × Obj)) (s:Shared) (σ:St) (H:Hp) (x:V) (v:Value) (Q:Bool→Hp→Prop),Inv X pins σ H s→RelV x v→r x H Q →
  wpAny (model X.prog X.w) X.A (truthy v) (TP X pins σ Q) X.xe s
noncomputable def tOp (r:R2) (ta tb:TE):TE:=fun σ H Q=>ta σ H fun x H1=>tb σ H1 fun y H2=>r x y H2 Q
noncomputable def rI (C:Int→Int→Prop) (g:Int→Int→V):R2:=fun x y H Q=>∃ i j,x=.int i∧y=.int j∧C i j∧Q (g i j) H
noncomputable def rI0 (g:Int→Int→V):R2:=fun x y H Q=>∃ i j,x=.int i∧y=.int j∧Q (g i j) H
section
variable {X:Cx} {a b c:Expr} {ta tb tc:TE} {pos:Pos}
theorem binT (ha:PE X a ta) (hb:PE X b tb) {pins:List (Addr × Obj)} {s:Shared} {σ:St} {H:Hp} {R:V→V→Hp→Prop} (I:Inv X pins σ H s)
  (h:ta σ H fun x H1=>tb σ H1 fun y H2=>R x y H2) {Q:Value→Shared→Prop} {f:Value→Value→Sem Value}
  (hf:∀ v u s2 x y H2,Inv X pins σ H2 s2→RelV x v→RelV y u→R x y H2→wpAny (model X.prog X.w) X.A (f v u) Q X.xe s2) :
  wpAny (model X.prog X.w) X.A (eval a X.env) (fun v s₁=>wpAny (model X.prog X.w) X.A (eval b X.env) (fun u s₂=>wpAny (model X.prog X.w) X.A (f v u) Q X.xe s₂) X.xe s₁) X.xe s:=by
 refine thn (ha pins s σ H _ I h) fun v s1 ⟨x,H1,I1,r1,q1⟩=>?_
 refine thn (hb pins s1 σ H1 _ I1 q1) fun u s2 ⟨y,H2,I2,r2,q2⟩=>?_
 exact hf v u s2 x y H2 I2 r1 r2 q2
theorem pe_op {op:Operator} {r:R2} (ho:OpR X (binaryOp op) r) (ha:PE X a ta) (hb:PE X b tb):PE X (.BinOp a op b pos) (tOp r ta tb):=by
 intro pins s σ H Q I h
 exact wpAny_BinOp (binT ha hb I h fun v u s2 x y H2 I2 rx ry q=>ho pins s2 σ H2 x y v u Q I2 rx ry q)
theorem opI {f:Value→Value→Sem Value} {C:Int→Int→Prop} {g:Int→Int→Int}
  (rule:∀ (i j:Int) (t u:Tok) (s:Shared) (Q:Value→Shared→Prop) (E:Value→Shared→Prop),C i j→Q (.int (g i j) s.toks) { s with toks:=s.toks+1 }→wpAny (model X.prog X.w) X.A (f (.int i t) (.int j u)) Q E s) :
  OpR X f (rI C fun i j=>.int (g i j)):=by
 intro pins s σ H x y v u Q I rx ry h
 obtain ⟨i,j,rfl,rfl,hc,q⟩:=h
 obtain ⟨t,rfl⟩:=rx
 obtain ⟨t',rfl⟩:=ry
 exact rule i j t t' s _ _ hc ⟨.int (g i j),H,I.tok _,⟨_,rfl⟩,q⟩
theorem opI0 {f:Value→Value→Sem Value} {g:Int→Int→Int}
  (rule:∀ (i j:Int) (t u:Tok) (s:Shared) (Q:Value→Shared→Prop) (E:Value→Shared→Prop),Q (.int (g i j) s.toks) { s with toks:=s.toks+1 }→wpAny (model X.prog X.w) X.A (f (.int i t) (.int j u)) Q E s) :
  OpR X f (rI0 fun i j=>.int (g i j)):=by
 intro pins s σ H x y v u Q I rx ry h
 obtain ⟨i,j,rfl,rfl,q⟩:=h
 obtain ⟨t,rfl⟩:=rx
 obtain ⟨t',rfl⟩:=ry
 exact rule i j t t' s _ _ ⟨.int (g i j),H,I.tok _,⟨_,rfl⟩,q⟩
theorem opB0 {f:Value→Value→Sem Value} {g:Int→Int→Bool}
  (rule:∀ (i j:Int) (t u:Tok) (s:Shared) (Q:Value→Shared→Prop) (E:Value→Shared→Prop),Q (.bool (g i j)) s→wpAny (model X.prog X.w) X.A (f (.int i t) (.int j u)) Q E s) :
  OpR X f (rI0 fun i j=>.bl (g i j)):=by
 intro pins s σ H x y v u Q I rx ry h
 obtain ⟨i,j,rfl,rfl,q⟩:=h
 obtain ⟨t,rfl⟩:=rx
 obtain ⟨t',rfl⟩:=ry
 exact rule i j t t' s _ _ ⟨.bl (g i j),H,I,rfl,q⟩
noncomputable def CDiv (i j:Int):Prop:=0<j∧j<1073741824
noncomputable def CPow (i j:Int):Prop:=0≤j∧j≤1000000∧i.natAbs<2 ^ 64
noncomputable def CMul (i j:Int):Prop:=(-(2 ^ 64)<i∧i<2 ^ 64)∨(-(2 ^ 64)<j∧j<2 ^ 64)
theorem CMul.ok {i j:Int} (h:CMul i j):IntMulOk i j:=by
 rcases h with ⟨h1,h2⟩ | ⟨h1,h2⟩
 ·exact .of_left (intBits_le_64 h1 h2)
 ·exact .of_right (intBits_le_64 h1 h2)
theorem op_add:OpR X (binaryOp .Add) (rI0 fun i j=>.int (i+j)):=opI0 fun _ _ _ _ _ _ _ q=>add_int q
theorem zR1:OpR X (binaryOp .Sub) (rI0 fun i j=>.int (i - j)):=opI0 fun _ _ _ _ _ _ _ q=>sub_int q
theorem zR2:OpR X (binaryOp .Mult) (rI CMul fun i j=>.int (i * j)):=opI fun _ _ _ _ _ _ _ hc q=>mul_int q hc.ok
theorem zPN:OpR X (binaryOp .FloorDiv) (rI CDiv fun i j=>.int (i / j)):=opI fun i j _ _ _ _ _ hc q=>by
 have h1:(0:Int)<j:=hc.1
 have h2:j<1073741824:=hc.2
 exact floordiv_int (by omega) (by rw [Int.fdiv_eq_ediv_of_nonneg i (by omega)]; exact q) (.inl (PyProof.noPylong_small (by omega)))
theorem zR3:OpR X (binaryOp .Mod) (rI (fun _ j=>0<j) fun i j=>.int (i % j)):=opI fun i j _ _ _ _ _ hc q=>by
 have h1:(0:Int)<j:=hc
 exact mod_int' (by omega) (by rw [Int.fmod_eq_emod_of_nonneg i (by omega)]; exact q)
theorem zR4:OpR X (binaryOp .Pow) (rI CPow fun i j=>.int (i ^ j.toNat)):=opI fun _ _ _ _ _ _ _ hc q=>pow_int_small hc.1 hc.2.1 hc.2.2 q
end
section
variable {X:Cx} {a b c:Expr} {ta tb tc:TE} {pos:Pos}
theorem zOQ {pins:List (Addr × Obj)} {σ:St} {H:Hp} {s:Shared} {Q:VK} {k k':Bool} (I:Inv X pins σ H s) (q:Q (.bl k) H) (e:k=k'):EP X pins σ Q (.bool k') s:=by
 subst e
 exact ⟨.bl k,H,I,rfl,q⟩
theorem op_lt:OpR X (compareOp .Lt) (rI0 fun i j=>.bl (decide (i<j))):=opB0 fun _ _ _ _ _ _ _ q=>lt_int q
theorem op_le:OpR X (compareOp .LtE) (rI0 fun i j=>.bl (decide (i≤j))):=opB0 fun _ _ _ _ _ _ _ q=>le_int q
theorem op_gt:OpR X (compareOp .Gt) (rI0 fun i j=>.bl (decide (j<i))):=opB0 fun _ _ _ _ _ _ _ q=>gt_int q
theorem op_ge:OpR X (compareOp .GtE) (rI0 fun i j=>.bl (decide (j≤i))):=opB0 fun _ _ _ _ _ _ _ q=>ge_int q
theorem zR5:OpR X (compareOp .Is) (fun x y H Q=>y=.non∧Q (.bl (decide (x=.non))) H):=by
 intro pins s σ H x y v u Q I rx ry h
 obtain ⟨rfl,q⟩:=h
 cases ry
 refine is_none_gen (zOQ I q ?_)
 cases x <;> first
  | (cases rx; rfl)
  | (obtain ⟨t,rfl⟩:=rx; rfl)
theorem zPO:OpR X (compareOp .IsNot) (fun x y H Q=>y=.non∧Q (.bl (!decide (x=.non))) H):=by
 intro pins s σ H x y v u Q I rx ry h
 obtain ⟨rfl,q⟩:=h
 cases ry
 refine isnot_none_gen (zOQ I q ?_)
 cases x <;> first
  | (cases rx; rfl)
  | (obtain ⟨t,rfl⟩:=rx; rfl)
theorem OpR.or {f:Value→Value→Sem Value} {r r':R2} (h:OpR X f r) (h':OpR X f r'):OpR X f (fun x y H Q=>r x y H Q∨r' x y H Q):=by
 intro pins s σ H x y v u Q I rx ry q
 rcases q with q | q
 ·exact h pins s σ H x y v u Q I rx ry q
 ·exact h' pins s σ H x y v u Q I rx ry q
theorem zTJ (b:Expr) {op:CmpOp} (h:op≠.In:=by decide) (h2:op≠.NotIn:=by decide):behindInMarks op b=false:=by
 have e1:(op == CmpOp.In)=false:=by cases op <;> first | rfl | exact absurd rfl h
 have e2:(op == CmpOp.NotIn)=false:=by cases op <;> first | rfl | exact absurd rfl h2
 cases b <;> simp [behindInMarks,e1,e2]
theorem zPP {op:CmpOp} {r:R2} (ho:OpR X (compareOp op) r) (ha:PE X a ta) (hb:PE X b tb) (hm:behindInMarks op b=false):PE X (.Compare a [op] [b] pos) (tOp r ta tb):=by
 intro pins s σ H Q I h
 exact wpAny_Compare1 (binT ha hb I h fun v u s2 x y H2 I2 rx ry q=>ho pins s2 σ H2 x y v u Q I2 rx ry q) hm
noncomputable def tTest (t:TE):TT:=fun σ H Q=>t σ H fun x H'=>∃ k,x=.bl k∧Q k H'
theorem zPQ {op:CmpOp} {r:R2} (ho:OpR X (compareOp op) r) (ha:PE X a ta) (hb:PE X b tb) (hm:behindInMarks op b=false):PT X (.Compare a [op] [b] pos) (tTest (tOp r ta tb)):=by
 intro pins s σ H Q I h
 refine wpAny_isTrue_Compare1 (thn (ha pins s σ H _ I h) fun v s1 ⟨x,H1,I1,r1,q1⟩=>thn (hb pins s1 σ H1 _ I1 q1) fun u s2 ⟨y,H2,I2,r2,q2⟩ =>
  thn (ho pins s2 σ H2 x y v u _ I2 r1 r2 q2) fun c s3 ⟨z,H3,I3,r3,k,e,q3⟩=>?_) hm
 subst e
 cases r3
 exact wpAny_truthy_bool ⟨H3,I3,q3⟩
noncomputable def zKW (r r':R2) (ta tb tc:TE):TE:=fun σ H Q=>ta σ H fun x H1=>tb σ H1 fun y H2=>r x y H2 fun z H3=>∃ k,z=.bl k ∧
 (if k=true then tc σ H3 fun w' H4=>r' y w' H4 Q else Q (.bl false) H3)
theorem zMZ {op op':CmpOp} {r r':R2} (ho:OpR X (compareOp op) r) (ho':OpR X (compareOp op') r') (ha:PE X a ta) (hb:PE X b tb) (hc:PE X c tc)
  (hm:lastMarks [op,op'] [b,c]=false:=by with_unfolding_all rfl):PE X (.Compare a [op,op'] [b,c] pos) (zKW r r' ta tb tc):=by
 intro pins s σ H Q I h
 refine Compare_chain (thn (ha pins s σ H _ I h) fun v s1 ⟨x,H1,I1,r1,q1⟩=>chain_link (thn (hb pins s1 σ H1 _ I1 q1) fun u s2 ⟨y,H2,I2,r2,q2⟩ =>
  thn (ho pins s2 σ H2 x y v u _ I2 r1 r2 q2) fun d s3 ⟨z,H3,I3,r3,k,e,q3⟩=>?_)) hm
 subst e
 cases r3
 refine wpAny_truthy_bool ?_
 cases k with
 | false=>exact ite_ff ⟨.bl false,H3,I3,rfl,q3⟩
 | true=>exact ite_tt (chain_last (thn (hc pins s3 σ H3 _ I3 q3) fun w' s4 ⟨z',H4,I4,r4,q4⟩=>ho' pins s4 σ H4 y z' u w' Q I4 r2 r4 q4))
theorem zM0 {op op':CmpOp} {r r':R2} (ho:OpR X (compareOp op) r) (ho':OpR X (compareOp op') r') (ha:PE X a ta) (hb:PE X b tb) (hc:PE X c tc)
  (hm:lastMarks [op,op'] [b,c]=false:=by with_unfolding_all rfl):PT X (.Compare a [op,op'] [b,c] pos) (tTest (zKW r r' ta tb tc)):=by
 intro pins s σ H Q I h
 refine isTrue_chain (thn (ha pins s σ H _ I h) fun v s1 ⟨x,H1,I1,r1,q1⟩=>test_link (thn (hb pins s1 σ H1 _ I1 q1) fun u s2 ⟨y,H2,I2,r2,q2⟩ =>
  thn (ho pins s2 σ H2 x y v u _ I2 r1 r2 q2) fun d s3 ⟨z,H3,I3,r3,k,e,q3⟩=>?_)) hm
 subst e
 cases r3
 refine wpAny_truthy_bool ?_
 cases k with
 | false =>
  obtain ⟨k',e',q'⟩:=q3
  cases e'
  exact ite_ff ⟨H3,I3,q'⟩
 | true =>
  refine ite_tt (test_last (thn (hc pins s3 σ H3 _ I3 q3) fun w' s4 ⟨z',H4,I4,r4,q4⟩=>thn (ho' pins s4 σ H4 y z' u w' _ I4 r2 r4 q4) fun d' s5 ⟨z2,H5,I5,r5,k2,e2,q5⟩=>?_))
  subst e2
  cases r5
  exact wpAny_truthy_bool ⟨H5,I5,q5⟩
noncomputable def TruV (K:PySem.W.Frag) (x:V) (H:Hp) (k:Bool):Prop :=
 match x with
 | .non=>k=false
 | .bl b=>k=b
 | .int i=>k=(i != 0)
 | .str y=>y.length≤sizeLine∧k=((y.length:Int) != 0)
 | .byt y=>y.size≤sizeLine∧k=((y.size:Int) != 0)
 | .ref p=>(∃ xs,SqL K H p xs∧k=!xs.isEmpty)∨(∃ xs,SqT K H p xs∧k=!xs.isEmpty)∨∃ kvs,H p=some (.dK kvs)∧k=!kvs.isEmpty
 | _=>False
theorem zJZ {κ:Type} {kvs:List (κ × V)} {vs:List (κ × Value)} (r:KV kvs vs):(!vs.isEmpty)=!kvs.isEmpty:=by
 cases r <;> rfl
theorem zE2 {xs:List V} {its:List Value} (r:Vals xs its):(!its.toArray.isEmpty)=!xs.isEmpty:=by
 cases r <;> simp
theorem zDP:(sizeLine:Nat)<2 ^ 63:=by rw [sizeLine_eq]; decide
theorem zR6:TruR X (fun x H Q=>∃ k,TruV X.K x H k∧Q k H):=by
 intro pins s σ H x v Q I rx h
 obtain ⟨k,e,q⟩:=h
 have hl:=zDP
 have hs:sizeLine=16777216:=sizeLine_eq
 cases x with
 | non =>
  cases rx
  have e':k=false:=e
  subst e'
  exact truthy_none ⟨H,I,q⟩
 | bl b =>
  cases rx
  have e':k=b:=e
  subst e'
  exact wpAny_truthy_bool ⟨H,I,q⟩
 | int i =>
  obtain ⟨t,rfl⟩:=rx
  have e':k=(i != 0):=e
  subst e'
  exact PySem.P.truthy_int ⟨H,I,q⟩
 | str y =>
  obtain ⟨t,rfl⟩:=rx
  obtain ⟨hy,e'⟩:y.length≤sizeLine∧k=((y.length:Int) != 0):=e
  subst e'
  exact PySem.P.truthy_str (by omega) ⟨H,I.tok _,q⟩
 | byt y =>
  obtain ⟨t,rfl⟩:=rx
  obtain ⟨hy,e'⟩:y.size≤sizeLine∧k=((y.size:Int) != 0):=e
  subst e'
  exact PySem.W.truthy_bytes (by omega) ⟨H,I.tok _,q⟩
 | ref p =>
  cases rx
  have e':(∃ xs,SqL X.K H p xs∧k=!xs.isEmpty)∨(∃ xs,SqT X.K H p xs∧k=!xs.isEmpty)∨∃ kvs,H p=some (.dK kvs)∧k=!kvs.isEmpty:=e
  rcases e' with ⟨xs,hx,e'⟩ | ⟨xs,hx,e'⟩ | ⟨kvs,hx,e'⟩
  ·subst e'
   obtain ⟨its,r,pl,hz⟩:=I.list hx
   have hlen:=r.length
   exact wpAny_truthy_list pl.isList (by simp only [List.size_toArray]; omega) ⟨H,I.tok _,by rw [zE2 r]; exact q⟩
  ·subst e'
   obtain ⟨its,r,pl,hz⟩:=I.tuple hx
   have hlen:=r.length
   exact truthy_tuple pl (by simp only [List.size_toArray]; omega) ⟨H,I.tok _,by rw [zE2 r]; exact q⟩
  ·subst e'
   obtain ⟨hz,hS,vs,r,m⟩:kvs.length≤sizeLine∧(p == sysModules)=false∧∃ vs,KV kvs vs∧s.heap.DictOf (zAT X.prog X.w) p vs:=I.hok p _ hx
   have hlen:kvs.length=vs.length:=Paired.length r
   exact wpAny_truthy_dict hS m (by omega) ⟨H,I.tok _,by rw [zJZ r]; exact q⟩
 | _=>exact (show False from e).elim
theorem zM1 (ha:PE X a ta) (he:∀ whole,isTrue a X.env whole=(do let v ← whole; standAt a.pos; holding [v] (truthy v))) :
  PT X a (fun σ H Q=>ta σ H fun x H'=>∃ k,TruV X.K x H' k∧Q k H'):=by
 intro pins s σ H Q I h
 exact isTrue_plain (thn (ha pins s σ H _ I h) fun v s1 ⟨x,H1,I1,r1,q1⟩=>zR6 pins s1 σ H1 x v Q I1 r1 q1) (he _)
theorem zJ0:OpR X (binaryOp .Add) (fun x y H Q=>∃ i j,x=.str i∧y=.str j∧i.length+j.length≤sizeLine∧Q (.str (i++j)) H):=by
 intro pins s σ H x y v u Q I rx ry h
 obtain ⟨i,j,rfl,rfl,hz,q⟩:=h
 obtain ⟨t,rfl⟩:=rx
 obtain ⟨t',rfl⟩:=ry
 exact add_str (fun t' tk=>⟨.str (i++j),H,I.tok _,⟨_,rfl⟩,q⟩) hz
theorem vals1 {x:V} {us:List Value} (r:Vals [x] us):∃ u,us=[u]∧RelV x u:=by
 cases r with
 | cons r1 r2=>cases r2; exact ⟨_,rfl,r1⟩
theorem vals2 {x y:V} {us:List Value} (r:Vals [x,y] us):∃ u w',us=[u,w']∧RelV x u∧RelV y w':=by
 cases r with
 | cons r1 r2 =>
  cases r2 with
  | cons r3 r4=>cases r4; exact ⟨_,_,rfl,r1,r3⟩
theorem zKX (hc:X.calm=true):CallR X (.builtin "min") (fun xs H Q=>∃ i j,xs=[.int i,.int j]∧Q (.int (if j<i then j else i)) H):=by
 intro pins s σ H xs us Q I r h
 obtain ⟨i,j,rfl,q⟩:=h
 obtain ⟨u,w',rfl,⟨t,rfl⟩,⟨t',rfl⟩⟩:=vals2 r
 refine min_two_ints (I.ok.hd hc) fun h' tk k=>⟨_,H,I.kept k,?_,q⟩
 by_cases hj:j<i
 ·rw [if_pos hj,if_pos hj]; exact ⟨_,rfl⟩
 ·rw [if_neg hj,if_neg hj]; exact ⟨_,rfl⟩
end
end L2
namespace L2
open PySem PySem.Spec PyProof.Rows
structure ObjM (h:Heap) (x dx C:Addr) (mA:Str→Option Value):Prop where
 obj:h.get? x=some (PySem.W.instObj C dx)
 ns:h.Ns1 dx mA
 ne:dx≠x
theorem zKY {h:Heap} {dx:Addr} {mA:Str→Option Value} (n:h.Ns1 dx mA):∃ od,h.get? dx=some od∧∀ name,PySem.W.lookIn name od=some (mA name):=by
 obtain ⟨o,es,ep,ho,hd,hk,_,hm⟩:=n
 refine ⟨o,ho,fun name=>?_⟩
 have e:=hm name
 unfold nsFind findBy at e
 rw [← Array.find?_toList] at e
 unfold PySem.W.lookIn
 rw [hd]
 dsimp only
 split
 ·rename_i y q
  rw [q] at e
  exact congrArg some e
 ·rename_i q
  rw [q] at e
  have a:es.toList.any (·.refKey)=false:=by
   rw [List.any_eq_false]
   intro y hy
   obtain ⟨z,t,hkey⟩:=hk y (Array.mem_toList_iff.mp hy)
   simp [DictEntry.refKey,hkey]
  have a':¬ es.toList.any (·.refKey)=true:=by rw [a]; exact Bool.false_ne_true
  rw [if_neg a']
  exact congrArg some e
theorem ObjM.look {h:Heap} {x dx C:Addr} {mA:Str→Option Value} (I:ObjM h x dx C mA):∃ od,PySem.W.InstAt h x (PySem.W.instObj C dx) C (some od)∧∀ name,PySem.W.lookIn name od=some (mA name) :=
 let ⟨od,ho,hl⟩:=zKY I.ns
 ⟨od,⟨I.obj,rfl,rfl,ho⟩,hl⟩
section
variable {prog:Program} {w:World} {A:Around} {E:Value→Shared→Prop} {s:Shared} {K:PySem.W.Frag} {x dx C f:Addr} {mA:Str→Option Value} {name:Str} {v:Value}
end
theorem RelO.some_of {v:V} {o:Option Value} (r:RelO (some v) o):∃ u,o=some u∧RelV v u:=by
 cases o with
 | none=>exact (show False from r).elim
 | some u=>exact ⟨u,rfl,r⟩
section
variable {P:Program} {w:World} {H H':Hp} {h h':Heap} {a C dx:Addr} {fs fs':List (Str × V)}
theorem zPR (hok:HOk P w H h) (e:H a=some (.ins C dx fs)):∃ mA,ObjM h a dx C mA∧(∀ f,RelO (fs.lookup f) (mA f))∧PySem.Within mA (fs.map (·.1))∧fs.length≤1000∧H dx=some (.own a):=by
 obtain ⟨d,z,ne,ob,mA,n,r,q⟩:=(show ObjOk P w H h a (.ins C dx fs) from hok a _ e)
 exact ⟨mA,⟨ob,n,ne⟩,r,q,z,d⟩
end
structure Cls (K:PySem.W.Frag) (C:Addr):Prop where
 pg:PySem.W.plainGet K C Str.empty=true
 hd:PySem.W.hasDictIn K C=true
 po:PySem.W.plainOver K C=true
 sa:PySem.W.findIn K (.ref C) "__setattr__"=some (some (.builtin "object.__setattr__"))
theorem Cls.get {K:PySem.W.Frag} {C:Addr} (c:Cls K C) (f:Str):PySem.W.plainGet K C f=true:=c.pg
section
variable {X:Cx} {pins:List (Addr × Obj)} {σ:St} {H:Hp} {s:Shared} {a C dx:Addr} {fs:List (Str × V)} {f:Str} {v:V} {A:Around} {E:Value→Shared→Prop}
end
section
variable {X:Cx} {o e value:Expr} {f:Str} {pos pos' tpos:Pos} {ta tv:TE}
end
section
variable {X:Cx} {pins:List (Addr × Obj)} {σ:St} {H:Hp} {s:Shared} {A:Around} {E:Value→Shared→Prop} {Q:Value→Shared→Prop} {c:Value} {b:Bool}
inductive TyOf (K:PySem.W.Frag) (H:Hp):V→Value→Prop where
 | non:TyOf K H .non (.type "NoneType")
 | bl (x:Bool):TyOf K H (.bl x) (.type "bool")
 | int (i:Int):TyOf K H (.int i) (.type "int")
 | str (x:Str):TyOf K H (.str x) (.type "str")
 | flt (x:UInt64):TyOf K H (.flt x) (.type "float")
 | lst {a:Addr} {xs:List V} (e:H a=some (.lst xs)):TyOf K H (.ref a) (.type "list")
 | frz {a:Addr} {o:Obj} {xs:List V} (e:H a=some (.frz o (.lst xs))):TyOf K H (.ref a) (.type "list")
 | tup {a:Addr} {xs:List V} (e:H a=some (.tup xs)):TyOf K H (.ref a) (.type "tuple")
 | dK {a:Addr} {kvs:List (Key × V)} (e:H a=some (.dK kvs)):TyOf K H (.ref a) (.type "dict")
 | dT {a:Addr} {kvs:List (List Key × V)} (e:H a=some (.dT kvs)):TyOf K H (.ref a) (.type "dict")
 | ins {a C dx:Addr} {fs:List (Str × V)} (e:H a=some (.ins C dx fs)) (cl:Cls K C) (ha:PySem.W.findIn K (.ref C) "__class__"=some (some (.builtin "object.__class__")))
   (hn:PySem.W.specialIn K (.builtin "object.__class__") "__get__"=some (some (.builtin "getset_descriptor.__get__"))) (htk:PySem.W.takesIn K (.builtin "object.__class__")=some true)
   (hm:PySem.W.mroIn K C (.type "object")=some true):TyOf K H (.ref a) (.ref C)
theorem zC7 {x:V} {u t:Value} (I:Inv X pins σ H s) (rx:RelV x u) (ty:TyOf X.K H x t) (e:PySem.W.kitOne X.K t c=some b) (h:∀ tk,Q (.bool b) { s with toks:=tk }) :
  wpAny (model X.prog X.w) A (call (.builtin "isinstance") [u,c]) Q E s:=by
 cases ty with
 | non=>cases (show u=Value.none from rx); exact PySem.W.kia_one PySem.W.kitx_none I.kIn True.intro e (fun z=>nomatch z) h
 | bl y=>cases (show u=Value.bool y from rx); exact PySem.W.kia_one PySem.W.kitx_bool I.kIn True.intro e (fun z=>nomatch z) h
 | int i=>obtain ⟨t,q⟩:=(show ∃ t,u=Value.int i t from rx); cases q; exact PySem.W.kia_one PySem.W.kitx_int I.kIn True.intro e (fun z=>nomatch z) h
 | str y=>obtain ⟨t,q⟩:=(show ∃ t,u=Value.str y t from rx); cases q; exact PySem.W.kia_one PySem.W.kitx_str I.kIn True.intro e (fun z=>nomatch z) h
 | flt y=>obtain ⟨t,q⟩:=(show ∃ t,u=Value.float y t from rx); cases q; exact PySem.W.kia_one PySem.W.kitx_float I.kIn True.intro e (fun z=>nomatch z) h
 | @lst a xs ea =>
  cases (show u=Value.ref a from rx)
  obtain ⟨_,_,n,_,h1⟩:=(show ObjOk X.prog X.w H s.heap a (.lst xs) from I.hok a _ ea)
  exact PySem.W.kia_one PySem.W.kitx_list I.kIn ⟨_,h1,rfl⟩ e (fun z=>nomatch z) h
 | @frz a ob xs ea =>
  cases (show u=Value.ref a from rx)
  obtain ⟨_,_,_,n,_,h1⟩:=(show ObjOk X.prog X.w H s.heap a (.frz ob (.lst xs)) from I.hok a _ ea)
  exact PySem.W.kia_one PySem.W.kitx_list I.kIn ⟨_,h1,rfl⟩ e (fun z=>nomatch z) h
 | @tup a xs ea =>
  cases (show u=Value.ref a from rx)
  obtain ⟨_,_,_,p⟩:=(show ObjOk X.prog X.w H s.heap a (.tup xs) from I.hok a _ ea)
  obtain ⟨o,h1,h2,_⟩:=p
  exact PySem.W.kia_one PySem.W.kitx_tuple I.kIn ⟨o,h1,h2⟩ e (fun z=>nomatch z) h
 | @dK a kvs ea =>
  cases (show u=Value.ref a from rx)
  obtain ⟨_,_,vs,_,p⟩:=(show ObjOk X.prog X.w H s.heap a (.dK kvs) from I.hok a _ ea)
  obtain ⟨o,es,ep,h1,h2,_⟩:=p
  exact PySem.W.kia_one PySem.W.kitx_dict I.kIn ⟨o,h1,h2.1⟩ e (fun z=>nomatch z) h
 | @dT a kvs ea =>
  cases (show u=Value.ref a from rx)
  obtain ⟨_,_,xs,_,o,es,ep,h1,h2,_⟩:=(show ObjOk X.prog X.w H s.heap a (.dT kvs) from I.hok a _ ea)
  exact PySem.W.kia_one PySem.W.kitx_dict I.kIn ⟨o,h1,h2.1⟩ e (fun z=>nomatch z) h
 | @ins a C dx fs ea cl ha hn htk hm =>
  cases (show u=Value.ref a from rx)
  obtain ⟨mA,O,_⟩:=zPR I.hok ea
  obtain ⟨od,J,_⟩:=O.look
  exact PySem.W.kia_one (PySem.W.kitx_own (cl.get _) cl.hd ha hn htk hm) I.kIn J e (fun z=>nomatch z) h
end
end L2
namespace L2
open PySem PySem.Spec PyProof.Rows
structure Room (k:Nat) (A:Around):Prop where
 hd:A.handled=none
 dp:A.depth+3 * k+5<recursionLimit
 un:A.units+16 * k+200<cLine
theorem Room.mono {j k:Nat} {A:Around} (r:Room k A) (h:j≤k):Room j A:=⟨r.hd,by have:=r.dp; omega,by have:=r.un; omega⟩
theorem Room.deeper {k:Nat} {A:Around} (r:Room (k+1) A) (env:Env):Room k (A.deeper env) :=
 ⟨r.hd,by have:=r.dp; show A.depth+1+3 * k+5<_; omega,by have:=r.un; show A.units+3+16 * k+200<_; omega⟩
theorem Room.depth {k:Nat} {A:Around} (r:Room k A):A.depth<recursionLimit:=by have:=r.dp; omega
theorem Room.units {k:Nat} {A:Around} (r:Room k A):A.units+64<cLine:=by have:=r.un; omega
noncomputable def tNil:TA:=fun _ H Q=>Q [] H
noncomputable def tCons (ta:TE) (tr:TA):TA:=fun σ H Q=>ta σ H fun x H1=>tr σ H1 fun xs H2=>Q (x::xs) H2
section
variable {X:Cx} {e:Expr} {es:List Expr} {te:TE} {t:TA} {pos:Pos}
theorem pa_nil:PA X [] tNil:=fun _ _ _ _ H Q I h=>Calls.spliced_nil ⟨[],H,I,.nil,h⟩
theorem zA9 (ha:PE X e te) (hr:PA X es t) (hs:starEach (e::es) X.env=(false,eval e X.env)::starEach es X.env:=by rfl):PA X (e::es) (tCons te t):=by
 intro pos pins s σ H Q I h
 rw [hs]
 show wpAny _ _ (spliced ((false,eval e X.env)::backTo pos (starEach es X.env))) _ _ s
 refine Calls.spliced_cons (thn (ha pins s σ H _ I h) fun u s1 ⟨x,H1,I1,r1,q1⟩=>?_)
 exact thn (hr pos pins s1 σ H1 _ I1 q1) fun us s2 ⟨xs,H2,I2,r2,q2⟩=>⟨x::xs,H2,I2,.cons r1 r2,q2⟩
noncomputable def tTup (t:TA):TE:=fun σ H Q=>t σ H fun xs H1=>xs.length≤sizeLine∧∀ p,H1 p=none→Q (.ref p) (upd H1 p (.tup xs))
noncomputable def tLst (t:TA):TE:=fun σ H Q=>t σ H fun xs H1=>xs.length≤sizeLine∧∀ p,H1 p=none→Q (.ref p) (upd H1 p (.lst xs))
theorem zR7 {x1} (h:PA X es t):PE X (.Tuple es x1 pos) (tTup t):=by
 intro pins s σ H Q I hq
 refine wpAny_Tuple_spliced (thn (h pos pins s σ H _ I hq) fun us s1 ⟨xs,H1,I1,r,z,q⟩=>⟨by rw [← r.length]; exact z,?_⟩)
 have hf:H1 s1.heap.objs.size=none:=I1.hok.fresh (Nat.le_refl _)
 refine ⟨.ref s1.heap.objs.size,upd H1 s1.heap.objs.size (.tup xs),I1.laid (t':=s1.toks) (fun b u e=>Heap.get?_push_of_some _ e) (Nat.le_refl _) ?_,rfl,q _ hf⟩
 exact ⟨z,us,r,⟨_,Heap.get?_push_size _ rfl,rfl,rfl,_,rfl⟩⟩
theorem zKZ (h:PA X es t):PE X (.List es pos) (tLst t):=by
 intro pins s σ H Q I hq
 refine wpAny_List_spliced (thn (h pos pins s σ H _ I hq) fun us s1 ⟨xs,H1,I1,r,z,q⟩=>⟨by rw [← r.length]; exact z,?_⟩)
 have hf:H1 s1.heap.objs.size=none:=I1.hok.fresh (Nat.le_refl _)
 refine ⟨.ref s1.heap.objs.size,upd H1 s1.heap.objs.size (.lst xs),I1.laid (t':=s1.toks) (fun b u e=>Heap.get?_push_of_some _ e) (Nat.le_refl _) ?_,rfl,q _ hf⟩
 exact ⟨z,us,0,r,Heap.get?_push_size _ rfl⟩
end
noncomputable abbrev Sp:=List V→Hp→VK→XK→Prop
noncomputable abbrev CXT:=List Env→Hp→Shared→XK→Value→Shared→Prop
structure Env0 (P:Program) (w:World) (K:PySem.W.Frag) (mg:Str→Option Value) (base:Heap) (A:Around) (outer:List Env) (s:Shared) (H:Hp):Prop where
 frames:A.frames=some outer
 mod:Mod K mg base
 bs:∀ b o,base.get? b=some o→s.heap.get? b=some o∧H b=none
 bsz:base.objs.size≤s.heap.objs.size
 funs:s.heap.FunFrames base outer
 frf:∀ b∈frs outer,H b=none
 hok:HOk P w H s.heap
 bare:AllBare s.gens
noncomputable def CE (outer:List Env) (P:Program) (w:World) (H:Hp) (s:Shared) (Q:VK) (u:Value) (s':Shared):Prop :=
 ∃ v H',s'.os=s.os∧AllBare s'.gens∧Un (frs outer) [] H H' s.heap s'.heap∧HOk P w H' s'.heap∧RelV v u∧Q v H'
noncomputable def CR (CX:CXT) (outer:List Env) (P:Program) (w:World) (H:Hp) (s:Shared) (Q:VK) (E:XK) (r:Result) (s':Shared):Prop :=
 match r with
 | .ok (.ret u)=>CE outer P w H s Q u s'
 | .ok _=>False
 | .error e=>CX outer H s E e s'
structure FnOk (P:Program) (w:World) (K:PySem.W.Frag) (mg:Str→Option Value) (base:Heap) (CX:CXT) (k:Nat) (f:Addr) (fd:FuncData) (ps:List Str) (sp:Sp):Prop where
 len:∀ vs H Q E,sp vs H Q E→vs.length=ps.length
 run:∀ (A:Around) (outer:List Env) (s:Shared) (H:Hp) (args:Args) (us:List Value) (vs:List V) (Q:VK) (E:XK),Room k A→Env0 P w K mg base A outer s H→BindsTo s fd args (ps.zip us)→Vals vs us→sp vs H Q E →
  codeAny (model P w) A (.call (.ref f) args) (CR CX outer P w H s Q E) s
theorem FnOk.imp {P:Program} {w:World} {K:PySem.W.Frag} {mg:Str→Option Value} {base:Heap} {CX:CXT} {k:Nat} {f:Addr} {fd:FuncData} {ps:List Str} {sp sp':Sp} (F:FnOk P w K mg base CX k f fd ps sp)
  (h:∀ vs H Q E,sp' vs H Q E→sp vs H Q E):FnOk P w K mg base CX k f fd ps sp' :=
 ⟨fun vs H Q E q=>F.len vs H Q E (h _ _ _ _ q),fun A outer s H args us vs Q E hr he hb hv hs=>F.run A outer s H args us vs Q E hr he hb hv (h _ _ _ _ hs)⟩
section
variable {X:Cx} {pins:List (Addr × Obj)} {σ:St} {H:Hp} {s s':Shared}
theorem Inv.env0 (I:Inv X pins σ H s):Env0 X.prog X.w X.K X.mg X.base X.A X.stack s H :=
 ⟨I.ok.frames,I.ok.mod,I.bs,Nat.le_trans I.ok.bsz I.sz,I.stack,I.stkFree,I.hok,I.bare⟩
theorem Inv.after {Q:VK} {u:Value} (I:Inv X pins σ H s) (h:CE X.stack X.prog X.w H s Q u s'):EP X pins σ Q u s':=by
 obtain ⟨v,H',os,bare,un,hok,r,q⟩:=h
 obtain ⟨hh,g,d,t,os'⟩:=s'
 obtain rfl:os'=s.os:=os
 exact ⟨v,H',I.call (h':=hh) (g':=g) (d':=d) (t':=t) (ch:=[]) un hok bare (fun b z=>absurd z (by simp)),r,q⟩
end
noncomputable def tCall (sp:Sp) (dvs:List V) (E:XK) (t:TA):TE:=fun σ H Q=>t σ H fun vs H1=>sp (vs++dvs) H1 Q E
noncomputable def Binds (K:PySem.W.Frag) (fd:FuncData) (ps:List Str) (ds:List Value):Prop :=
 ∀ (s:Shared) (us:List Value),K.In s.heap→(us++ds).length=ps.length→BindsTo s fd ⟨us,[]⟩ (ps.zip (us++ds))
theorem Binds.all {K:PySem.W.Frag} {fd:FuncData} {ps:List Str} (h:∀ us:List Value,us.length=ps.length→bindArgs fd ⟨us,[]⟩=pure (ps.zip us)):Binds K fd ps []:=fun s us _ hl=>by
 rw [List.append_nil] at hl ⊢
 exact .of_eq (h us hl)
noncomputable def zK0 (CX:CXT) (X:Cx) (E:XK):Prop:=∀ (pins:List (Addr × Obj)) (σ:St) (H:Hp) (s:Shared) (e:Value) (s':Shared),Inv X pins σ H s→CX X.stack H s E e s'→X.xe e s'
section
variable {X:Cx} {CX:CXT} {k:Nat} {f C:Addr} {fd:FuncData} {ps:List Str} {sp:Sp} {dvs:List V} {ds:List Value} {E:XK} {x m:Str} {p pos apos:Pos} {e o:Expr} {es:List Expr} {ta:TE} {t:TA}
theorem zR8 {pins:List (Addr × Obj)} {σ:St} {H:Hp} {s:Shared} {Q:VK} {us:List Value} {vs:List V} (F:FnOk X.prog X.w X.K X.mg X.base CX k f fd ps sp) (hr:Room k X.A) (hb:Binds X.K fd ps ds) (hd:Vals dvs ds) (hx:zK0 CX X E)
  (I:Inv X pins σ H s) (r:Vals vs us) (h:sp (vs++dvs) H Q E):wpAny (model X.prog X.w) X.A (call (.ref f) us) (EP X pins σ Q) X.xe s:=by
 have r2:Vals (vs++dvs) (us++ds):=r.append hd
 have hl:(us++ds).length=ps.length:=by rw [← r2.length]; exact F.len _ _ _ _ h
 refine wpAny_call (codeAny_mono (F.run X.A X.stack s H ⟨us,[]⟩ (us++ds) (vs++dvs) Q E hr I.env0 (hb s us I.kIn hl) r2 h) fun r s' hq=>?_)
 cases r with
 | error e=>exact hx pins σ H s e s' I hq
 | ok fl =>
  cases fl with
  | ret u=>exact I.after hq
  | next=>exact False.elim hq
  | brk=>exact False.elim hq
  | cont=>exact False.elim hq
theorem zFT (F:FnOk X.prog X.w X.K X.mg X.base CX k f fd ps sp) (hr:Room k X.A) (hg:Gl X x) (hm:X.mg x=some (.ref f)) (hk:PySem.W.keepIn X.K (.ref f)=true) (hb:Binds X.K fd ps ds) (hd:Vals dvs ds) (hx:zK0 CX X E)
  (ha:PA X (e::es) t) (hdb:(x == ("__debug__":Str))=false:=by decide) (he:starEach (e::es) X.env=(false,eval e X.env)::starEach es X.env:=by rfl) (hpl:(backTo pos (starEach es X.env)).any (·.1)=false:=by rfl) :
  PE X (.Call (.Name x p) (e::es) [] pos) (tCall sp dvs E t):=by
 intro pins s σ H Q I h
 refine wpAny_Call_Name_kw (zKO I hg hm ?_ hdb)
 refine PySem.W.callWith_K (h₀:=X.base) I.ok.mod.kin hk (thn (ha pos pins s σ H _ I h) fun us s1 ⟨vs,H1,I1,r,q⟩=>⟨I1.kIn,?_⟩) he hpl
 exact zR8 F hr hb hd hx I1 r q
end
section
variable {X:Cx} {CX:CXT} {k:Nat} {f C:Addr} {fd:FuncData} {ps ks:List Str} {sp:Sp} {E:XK} {x m:Str} {p pos apos kpos:Pos} {e o:Expr} {es:List Expr} {kws:List Keyword} {te ta:TE} {t tk:TA} {nm:Option Str}
variable {g:List Value→List Value→List Value} {gV:List V→List V→List V}
end
structure FnScope (N P:List Str) (sc:Scope):Prop where
 kind:sc.kind=.function
 co:sc.isCoroutine=false
 gen:sc.isGenerator=false
 nd:N.Nodup
 pre:N.take P.length=P
 par:∀ x∈P,sc.names.lookup x=some .local∨sc.names.lookup x=some .cell
 nofree:∀ y∈sc.names,y.2≠.free
theorem zGQ {kindOf:Str→Option NameKind} {x:Str}:∀ {binds:List (Str × Value)} {m:Str→Option Value},(∀ v,(x,v)∉binds)→bindL kindOf binds m x=m x
 | [],_,_=>rfl
 | (n,v)::r,m,h=>by
  unfold bindL
  rw [zGQ fun w hw=>h w (List.mem_cons_of_mem _ hw)]
  split
  ·have:x≠n:=by rintro rfl; exact h v List.mem_cons_self
   simp [this]
  ·rfl
theorem zGR {kindOf:Str→Option NameKind} {x:Str}:∀ {binds:List (Str × Value)} {m:Str→Option Value},(∀ v,(x,v)∉binds)→bindC kindOf binds m x=m x
 | [],_,_=>rfl
 | (n,v)::r,m,h=>by
  unfold bindC
  rw [zGR fun w hw=>h w (List.mem_cons_of_mem _ hw)]
  split
  ·rfl
  ·have:x≠n:=by rintro rfl; exact h v List.mem_cons_self
   simp [this]
theorem zGS {kindOf:Str→Option NameKind} {x:Str} {v:Value}:∀ {P:List Str} {vs:List Value} {i:Nat} {m:Str→Option Value},P.Nodup→P[i]?=some x→vs[i]?=some v→kindOf x=some .local →
  bindL kindOf (P.zip vs) m x=some v
 | [],_,_,_,_,h,_,_=>by simp at h
 | _::_,[],_,_,_,_,h,_=>by simp at h
 | p::P,w::vs,0,m,nd,h1,h2,hk=>by
  simp at h1 h2; subst h1; subst h2
  show bindL kindOf ((p,w)::P.zip vs) m p=_
  unfold bindL
  rw [zGQ fun v hv=>(List.nodup_cons.mp nd).1 (List.of_mem_zip hv).1,if_pos hk]
  simp
 | p::P,w::vs,i+1,m,nd,h1,h2,hk=>by
  show bindL kindOf ((p,w)::P.zip vs) m x=_
  unfold bindL
  exact zGS (i:=i) (List.nodup_cons.mp nd).2 (by simpa using h1) (by simpa using h2) hk
theorem zGT {kindOf:Str→Option NameKind} {x:Str} {v:Value}:∀ {P:List Str} {vs:List Value} {i:Nat} {m:Str→Option Value},P.Nodup→P[i]?=some x→vs[i]?=some v→kindOf x≠some .local →
  bindC kindOf (P.zip vs) m x=some v
 | [],_,_,_,_,h,_,_=>by simp at h
 | _::_,[],_,_,_,_,h,_=>by simp at h
 | p::P,w::vs,0,m,nd,h1,h2,hk=>by
  simp at h1 h2; subst h1; subst h2
  show bindC kindOf ((p,w)::P.zip vs) m p=_
  unfold bindC
  rw [zGR fun v hv=>(List.nodup_cons.mp nd).1 (List.of_mem_zip hv).1,if_neg hk]
  simp
 | p::P,w::vs,i+1,m,nd,h1,h2,hk=>by
  show bindC kindOf ((p,w)::P.zip vs) m x=_
  unfold bindC
  exact zGT (i:=i) (List.nodup_cons.mp nd).2 (by simpa using h1) (by simpa using h2) hk
noncomputable def start (N:List Str) (vs:List V):St:=vs.map some++List.replicate (N.length - vs.length) none
noncomputable def cxOf (CX:CXT) (P:Program) (w:World) (K:PySem.W.Frag) (mg:Str→Option Value) (base:Heap) (N:List Str) (qual:Str) (scope:Scope) (f:Addr) (cd:Value) (A:Around) (outer:List Env) (s:Shared) (H:Hp) (E:XK):Cx where
 prog:=P
 w:=w
 K:=K
 mg:=mg
 base:=base
 A:=A.deeper (envOfC qual scope s.heap.objs.size f cd)
 N:=N
 s₀:=s
 H₀:=H
 env:=envOfC qual scope s.heap.objs.size f cd
 outer:=outer
 stack:=envOfC qual scope s.heap.objs.size f cd::outer
 ex:=[]
 calm:=true
 fn:=fun _=>true
 pn:=[]
 xe:=fun e s'=>wpAny (model P w) (A.deeper (envOfC qual scope s.heap.objs.size f cd)) (leaving (envOfC qual scope s.heap.objs.size f cd) e) (fun _ s''=>CX outer H s E e s'') (fun e' s''=>CX outer H s E e' s'') s'
theorem zIZ {sc:Scope} {n:Nat} {x:Str} (h:sc.names.lookup x=some .cell):∃ c,(cellsFrom n sc.names []).lookup x=some c:=by
 have q:=PySem.W.cellsFrom_some sc.names n [] (.inl h)
 exact Option.isSome_iff_exists.mp q
theorem zK1 {CX:CXT} {P:Program} {w:World} {K:PySem.W.Frag} {mg:Str→Option Value} {base:Heap} {N ps:List Str} {qual:Str} {scope:Scope} {f:Addr} {cd:Value} {A:Around} {outer:List Env} {s s1:Shared} {H:Hp} {E:XK} {us:List Value} {vs:List V}
  (S:FnScope N ps scope) (hd:A.handled=none) (e0:Env0 P w K mg base A outer s H) (hl:vs.length=ps.length) (r:Vals vs us)
  (x:InCallC s s.heap.objs.size (bindL (envOfC qual scope s.heap.objs.size f cd).kindOf (ps.zip us) fun _=>none) (cellsFrom (s.heap.objs.size+1) scope.names []) (bindC (envOfC qual scope s.heap.objs.size f cd).kindOf (ps.zip us) fun _=>none) s1) :
  Inv (cxOf CX P w K mg base N qual scope f cd A outer s H E) [] (start N vs) H s1:=by
 have hpl:ps.length≤N.length:=by have:=congrArg List.length S.pre; rw [List.length_take] at this; omega
 obtain ⟨h1,tk,rfl,hk⟩:=x.done
 have noA:∀ b:Addr,b∉(cxOf CX P w K mg base N qual scope f cd A outer s H E).ex:=fun b z=>absurd (show b∈([]:List Addr) from z) (by simp)
 refine ⟨⟨e0.mod,S.kind,rfl,rfl,Nat.le_refl _,fun y z c h1 h2=>?_,fun y hy=>?_,fun y c _ h=>?_,fun _=>hd,Around.frames_deeper e0.frames,.inr ⟨rfl,rfl⟩,fun b z=>absurd z (noA b),e0.bs,e0.bsz,fun b _ _=>noA b,fun b z=>absurd z (noA b),e0.funs,e0.frf⟩,
  rfl,e0.bare,Un.kept hk,⟨_,x.toInCall.ns,fun i y v h1 h2 h3=>?_⟩,fun y c h=>⟨_,x.cell y c h⟩,e0.hok.fresh (Nat.le_refl _),fun y c h=>?_,fun p hp=>absurd (show p∈([]:List (Addr × Obj)) from hp) (by simp),e0.hok.kept hk,?_⟩
 ·exact name_of_addr x.apart (PySem.mem_of_lookup h1) (PySem.mem_of_lookup h2)
 ·have hy:scope.names.lookup y=some .cell∨scope.names.lookup y=some .free:=hy
  rcases hy with hy | hy
  ·exact zIZ hy
  ·exact absurd rfl (S.nofree _ (PySem.mem_of_lookup hy))
 ·exact Nat.le_of_lt (x.above y c (PySem.mem_of_lookup h))
 ·have hi:i<vs.length:=by
   unfold start at h2
   by_cases hi:i<vs.length
   ·exact hi
   ·rw [List.getElem?_append_right (by simpa using hi)] at h2
    rw [List.getElem?_replicate] at h2
    split at h2 <;> cases h2
  have ha:vs[i]?=some v:=by
   unfold start at h2
   rw [List.getElem?_append_left (by simpa using hi),List.getElem?_map] at h2
   cases e:vs[i]? with
   | none=>rw [e] at h2; cases h2
   | some a=>rw [e] at h2; cases h2; rfl
  obtain ⟨u,hu,rv⟩:=r.get ha
  have hp:ps[i]?=some y:=by
   rw [← S.pre,List.getElem?_take_of_lt (by omega)]; exact h1
  have ndP:ps.Nodup:=by rw [← S.pre]; exact S.nd.sublist (List.take_sublist _ _)
  refine ⟨u,rv,?_⟩
  rcases S.par y (List.mem_of_getElem? hp) with k | k
  ·exact .inl ⟨k,zGS ndP hp hu k⟩
  ·obtain ⟨c,e⟩:=zIZ (n:=s.heap.objs.size+1) k
   refine .inr ⟨.inl k,c,e,?_⟩
   have q:=x.cell y c e
   rw [zGT ndP hp hu (by show scope.names.lookup y≠_; rw [k]; decide)] at q
   exact q
 ·exact e0.hok.fresh (Nat.le_of_lt (x.above y c (PySem.mem_of_lookup h)))
 ·unfold start
  show _=N.length
  rw [List.length_append,List.length_map,List.length_replicate]
  omega
theorem fn_of {CX:CXT} {P:Program} {w:World} {K:PySem.W.Frag} {mg:Str→Option Value} {base:Heap} {k:Nat} {f:Addr} {name qual:Str} {params:Arguments} {body:List Stmt} {scope:Scope} {dV kV doc pm cdv ct oc:Value} {an od:Option Addr}
  {osl:Array (Option Value)} {N ps:List Str} {sp:Sp} (lk:K.lookup f=some ⟨oc,od,.func (PySem.W.fnOf name qual params body scope dV kV doc pm an cdv ct),osl⟩) (hcd:PySem.W.codeIn K cdv qual=true) (S:FnScope N ps scope)
  (len:∀ vs H Q E,sp vs H Q E→vs.length=ps.length)
  (hbody:∀ (A:Around) (outer:List Env) (s:Shared) (H:Hp) (vs:List V) (Q:VK) (E:XK),Room k (A.deeper (envOfC qual scope s.heap.objs.size f cdv))→sp vs H Q E →
   ∃ t,PSs (cxOf CX P w K mg base N qual scope f cdv A outer s H E) body t∧t { nx:=fun _ H'=>Q .non H',rt:=Q } (start N vs) H) :
  FnOk P w K mg base CX (k+1) f (PySem.W.fnOf name qual params body scope dV kV doc pm an cdv ct) ps sp:=by
 refine ⟨len,fun A outer s H args us vs Q E hr e0 hb r hsp=>?_⟩
 have hl:=len _ _ _ _ hsp
 have KX:K.In s.heap:=e0.mod.kin.keeps fun b o e=>(e0.bs b o e).1
 have lim:s.heap.NoLimit:=e0.mod.nolimit.keeps fun b o e=>(e0.bs b o e).1
 have hkind:∀ y∈ps.zip us,scope.names.lookup y.1=some .local∨(scope.names.lookup y.1=some .cell∧((cellsFrom (s.heap.objs.size+1) scope.names []).lookup y.1).isSome=true):=fun ⟨n,v⟩ hy=>by
  rcases S.par n (List.of_mem_zip hy).1 with q | q
  ·exact .inl q
  ·exact .inr ⟨q,PySem.W.cellsFrom_some _ _ _ (.inl q)⟩
 refine codeAny_call_function hr.depth (KX _ _ lk) rfl S.co S.gen rfl (PySem.W.codeRec_of KX hcd) (hb _ _ _ _ ?_)
 refine wpAny_newFunctionEnv_cells S.kind hkind fun env he s1 x=>?_
 subst he
 refine ⟨lim.keeps x.toInCall.keep,codeAny_func ?_⟩
 obtain ⟨t,ht,hq⟩:=hbody A outer s H vs Q E (hr.deeper _) hsp
 have I:Inv (cxOf CX P w K mg base N qual scope f cdv A outer s H E) [] (start N vs) H s1:=zK1 S hr.hd e0 hl r x
 refine wpAny_mono (ht [] s1 (start N vs) H _ I hq) (fun fl s' hs=>?_) fun e s' hs=>hs
 have fin:∀ {σ':St} {H':Hp} {v:V} {u:Value},Inv (cxOf CX P w K mg base N qual scope f cdv A outer s H E) [] σ' H' s'→RelV v u→Q v H'→CE outer P w H s Q u s' :=
  fun {σ' H' v u} J rv q=>⟨v,H',J.os,J.bare,J.base,J.hok,rv,q⟩
 cases fl with
 | ret u =>
  obtain ⟨v,σ',H',J,rv,q⟩:=hs
  exact fin J rv q
 | next =>
  obtain ⟨σ',H',J,q⟩:=hs
  exact fin (v:=V.non) (u:=Value.none) J rfl q
 | brk =>
  obtain ⟨_,_,_,q⟩:=hs
  exact False.elim q
 | cont =>
  obtain ⟨_,_,_,q⟩:=hs
  exact False.elim q
end L2
namespace L2
open PySem PySem.Spec PyProof.Rows
section
variable {X:Cx} {x:Str} {p pos:Pos} {e:Expr} {es:List Expr} {t:TA} {id T:String} {r:List V→Hp→VK→Prop}
noncomputable def tCB (r:List V→Hp→VK→Prop) (t:TA):TE:=fun σ H Q=>t σ H fun vs H1=>r vs H1 Q
theorem zFU (hc:CallR X (.builtin id) r) (hg:Gl X x) (hm:X.mg x=none) (hv:bootBuiltins x=some (.builtin id)) (ha:PA X (e::es) t) (hn:x≠"__name__":=by decide) (hdb:(x == ("__debug__":Str))=false:=by decide)
  (he:starEach (e::es) X.env=(false,eval e X.env)::starEach es X.env:=by rfl) (hpl:(backTo pos (starEach es X.env)).any (·.1)=false:=by rfl):PE X (.Call (.Name x p) (e::es) [] pos) (tCB r t):=by
 intro pins s σ H Q I h
 refine wpAny_Call_Name_kw (zD6 I hg hm hv ?_ hn hdb)
 exact PyProof.Rows.callWith_builtin1 (thn (ha pos pins s σ H _ I h) fun us s1 ⟨vs,H1,I1,r1,q1⟩=>hc pins s1 σ H1 vs us Q I1 r1 q1) he hpl
theorem zC8 (hc:CallR X (.type T) r) (hg:Gl X x) (hm:X.mg x=none) (hv:bootBuiltins x=some (.type T)) (ha:PA X (e::es) t) (hn:x≠"__name__":=by decide) (hdb:(x == ("__debug__":Str))=false:=by decide)
  (he:starEach (e::es) X.env=(false,eval e X.env)::starEach es X.env:=by rfl) (hpl:(backTo pos (starEach es X.env)).any (·.1)=false:=by rfl):PE X (.Call (.Name x p) (e::es) [] pos) (tCB r t):=by
 intro pins s σ H Q I h
 refine wpAny_Call_Name_kw (zD6 I hg hm hv ?_ hn hdb)
 exact PyProof.Rows.callWith_type1 (thn (ha pos pins s σ H _ I h) fun us s1 ⟨vs,H1,I1,r1,q1⟩=>hc pins s1 σ H1 vs us Q I1 r1 q1) he hpl
end
end L2
namespace HT
open PySem PyProof.Rows
noncomputable def lexLt:List Int→List Int→Bool
 | [],[]=>false
 | [],_::_=>true
 | _::_,[]=>false
 | x::xs,y::ys=>if x=y then lexLt xs ys else decide (x<y)
theorem zJ1 (x y:Int) (xs ys:List Int):lexLt (x::xs) (y::ys)=if x=y then lexLt xs ys else decide (x<y):=rfl
theorem zFV:lexLt [] []=false:=rfl
theorem zEX (y:Int) (ys:List Int):lexLt [] (y::ys)=true:=rfl
theorem zEY (x:Int) (xs:List Int):lexLt (x::xs) []=false:=rfl
theorem zM2 (A:Around) (s:Shared) (a:Int) (t:Tok) (c:Int) (u:Tok):∃ e,SeqAt.EqAt A s (.int a t) (.int c u) e∧(e=true↔a=c) :=
 ⟨(a == c),SeqAt.EqAt.int_int a t c u,by simp⟩
theorem zM3 (A:Around) (s:Shared) (a:Int) (t:Tok) (c:Int) (u:Tok) (prog:Program) (w:World) (E:Value→Shared→Prop) (Q:Value→Shared→Prop) (h:Q (.bool (decide (a<c))) s) :
  wpAny (model prog w) A (richCompare .Lt (.int a t) (.int c u)) Q E s :=
 (PyProof.Rows.lt_int h:wpAny (model prog w) A (compareOp .Lt (.int a t) (.int c u)) Q E s)
section
open PySem.SeqAt
open PySem.AutoSeq1 (wpAny_loadPart')
open PySem.MeetsSeq PySem.MeetsSeq2 PySem.MeetsSeq3
theorem zFW (l b:Addr) (items items2:Array Value) (n n2:Nat) (dd dd2:Option Addr) (sl sl2:Array (Option Value)) (ns ms:List Int) (hi:IntsAre items.toList ns) (hj:IntsAre items2.toList ms) :
  Meets (Builtin.«tuple.__lt__» ⟨[.ref l,.ref b],[]⟩)
   (fun _ R s=>s.heap.get? l=some { cls:=.type "tuple",dict:=dd,data:=.seq items n,slots:=sl }∧s.heap.get? b=some { cls:=.type "tuple",dict:=dd2,data:=.seq items2 n2,slots:=sl2 } ∧
    R (.ok (.ret (.bool (lexLt ns ms)))) s) :=
 .of_wp fun prog w A R s h=>by
  obtain ⟨hp,g,d,tk,os⟩:=s; obtain ⟨hl,hb,h⟩:=h
  have f2:=AutoSeq1.sub_tuple_tuple
  have z1:items.size=ns.length:=by rw [← hi.length]; simp
  have z2:items2.size=ms.length:=by rw [← hj.length]; simp
  wp_walk using wpAny_loadPart' hl,wpAny_loadPart' hb,wpAny_forIn_list _ (fun rest b s'=>b.1=none∧s'=⟨hp,g,d,tk,os⟩∧∃ (vs ws:List Value) (ns' ms':List Int),rest=vs.zip ws ∧
   IntsAre vs ns'∧IntsAre ws ms'∧ns'.length+items2.size=ms'.length+items.size∧R (.ok (.ret (.bool (lexLt ns' ms')))) ⟨hp,g,d,tk,os⟩) _
  case turn =>
   rintro ⟨y,x⟩ rest b s' ⟨hb',rfl,vs,ws,ns',ms',hz,hvi,hwi,hlen,hR⟩
   cases hvi with
   | nil=>rw [List.zip_nil_left] at hz; cases hz
   | cons a t hvi' =>
    cases hwi with
    | nil=>rw [List.zip_nil_right] at hz; cases hz
    | cons c u hwi' =>
     rw [List.zip_cons_cons] at hz
     injection hz with hyx hrest
     injection hyx with hy hx
     subst hy hx
     rw [zJ1] at hR
     simp only [List.length_cons] at hlen
     obtain ⟨e,he,hiff⟩:=zM2 A.in1 ⟨hp,g,d,tk,os⟩ a t c u
     refine wpAny_bind (he prog w _ _ ?_)
     cases e with
     | true =>
      rw [if_pos (hiff.mp rfl)] at hR
      wp_walk
      exact ⟨rfl,rfl,_,_,_,_,hrest,hvi',hwi',by omega,hR⟩
     | false =>
      rw [if_neg (fun q=>absurd (hiff.mpr q) Bool.false_ne_true)] at hR
      have hri:=zM3 A.in1 ⟨hp,g,d,tk,os⟩ a t c u prog w
      wp_walk using hri
      exact ⟨_,rfl,by simpa using hR⟩
  case fin =>
   rintro ⟨b1,b2⟩ s' ⟨hb',rfl,vs,ws,ns',ms',hz,hvi,hwi,hlen,hR⟩
   simp only at hb'
   subst hb'
   have hv:lexLt ns' ms'=decide (items.size<items2.size):=by
    cases hvi with
    | nil =>
     cases hwi with
     | nil =>
      simp only [List.length_nil] at hlen
      rw [zFV]
      exact (decide_eq_false (by omega)).symm
     | cons c u hw =>
      simp only [List.length_nil,List.length_cons] at hlen
      rw [zEX]
      exact (decide_eq_true (by omega)).symm
    | cons a t hv =>
     cases hwi with
     | nil =>
      simp only [List.length_nil,List.length_cons] at hlen
      rw [zEY]
      exact (decide_eq_false (by omega)).symm
     | cons c u hw =>
      rw [List.zip_cons_cons] at hz
      cases hz
   rw [hv] at hR
   wp_walk
   exact ⟨_,rfl,by simpa [Builtin.Tuple.tupleCompareSizes] using hR⟩
  case h =>
   exact ⟨rfl,rfl,items.toList,items2.toList,ns,ms,rfl,hi,hj,by omega,h⟩
end
section
variable {prog:Program} {w:World} {A:Around} {E:Value→Shared→Prop} {s:Shared}
theorem lt_tupInts {l b:Addr} {items items2:Array Value} {ns ms:List Int} {Q:Value→Shared→Prop} (hl:IsTup s.heap l items) (hb:IsTup s.heap b items2) (hi:IntsAre items.toList ns) (hj:IntsAre items2.toList ms)
  (hu:A.units<cLine) (h:Q (.bool (lexLt ns ms)) s):wpAny (model prog w) A (compareOp .Lt (.ref l) (.ref b)) Q E s:=by
 obtain ⟨⟨cls,dd,data,sl⟩,ho,hc,n,hd⟩:=id hl
 obtain ⟨⟨cls2,dd2,data2,sl2⟩,ho2,hc2,n2,hd2⟩:=id hb
 simp only at hc hd hc2 hd2
 subst hc hd hc2 hd2
 exact richCompare_meets_room (op:=.Lt) ⟨_,ho,rfl⟩ ⟨_,ho2,rfl⟩ PySem.F.slot_tuple_lt PySem.F.entry_tuple_lt (PySem.F.args_tuple_lt_2 _ _) (zFW l b items items2 n n2 dd dd2 sl sl2 ns ms hi hj)
  ⟨ho,ho2,show Value.bool (lexLt ns ms)≠Value.notImplemented∧Q (.bool (lexLt ns ms)) s from ⟨(fun x=>nomatch x),h⟩⟩ hu
theorem cat_tup {t b:Addr} {vs ws:List Value} {Q:Value→Shared→Prop} (ht:IsTup s.heap t vs.toArray) (hb:IsTup s.heap b ws.toArray) (hv:vs≠[])
  (h1:ws=[]→Q (.ref t) s) (h2:ws≠[]→Q (.ref s.heap.objs.size) { s with heap:=s.heap.push { cls:=.type "tuple",data:=.seq (vs++ws).toArray } })
  (hsz:vs.length+ws.length≤sizeLine):wpAny (model prog w) A (binaryOp .Add (.ref t) (.ref b)) Q E s:=by
 obtain ⟨⟨cls,dd,data,sl⟩,ho,hc,n,hd⟩:=id ht
 obtain ⟨⟨cls2,dd2,data2,sl2⟩,ho2,hc2,n2,hd2⟩:=id hb
 simp only at hc hd hc2 hd2
 subst hc hd hc2 hd2
 have e:vs.toArray++ws.toArray=(vs++ws).toArray:=by simp
 by_cases hw:ws=[]
 ·exact concat_meets ⟨_,ho,rfl⟩ ⟨_,ho2,rfl⟩ noFill_tuple_add seq_tuple_add PySem.F.slot_tuple_add PySem.F.entry_tuple_add (PySem.F.args_tuple_add_2 _ _)
   (tuple_addW1 t b vs.toArray ws.toArray n n2 dd dd2 sl sl2 (by simpa using hv) (by simp [hw])) ⟨ho,ho2,h1 hw⟩
 ·refine concat_meets ⟨_,ho,rfl⟩ ⟨_,ho2,rfl⟩ noFill_tuple_add seq_tuple_add PySem.F.slot_tuple_add PySem.F.entry_tuple_add (PySem.F.args_tuple_add_2 _ _)
   (tuple_addW2 t b vs.toArray ws.toArray n n2 dd dd2 sl sl2 (by simpa using hv) (by simpa using hw) (by rw [List.size_toArray,List.size_toArray]; exact hsz)) ⟨ho,ho2,?_⟩
  rw [e]
  exact h2 hw
noncomputable def sIx (n d:Nat):Option Int→Nat
 | none=>d
 | some v=>if v<0 then (v+(n:Int)).toNat else min v.toNat n
theorem zR9 (n d:Nat) (hd:d≤n) (o:Option Int):sIx n d o≤n:=by
 cases o with
 | none=>exact hd
 | some v =>
  show (if v<0 then (v+(n:Int)).toNat else min v.toNat n)≤n
  by_cases hv:v<0
  ·rw [if_pos hv]; omega
  ·rw [if_neg hv]; exact Nat.min_le_right _ _
theorem zK2 (v:Int) (n d:Nat):(if v<0 then max (v+(n:Int)) 0 else min v (n:Int))=((sIx n d (some v):Nat):Int):=by
 show (if v<0 then max (v+(n:Int)) 0 else min v (n:Int))=(((if v<0 then (v+(n:Int)).toNat else min v.toNat n):Nat):Int)
 by_cases hv:v<0
 ·simp only [if_pos hv]; omega
 ·simp only [if_neg hv]; omega
theorem zJ2 (lo hi:Option Int) (n:Nat):Builtin.Slice.sliceAdjust lo hi 1 (n:Int)=(((sIx n 0 lo:Nat):Int),((sIx n n hi:Nat):Int)):=by
 have h1:¬ ((1:Int)<0):=by omega
 unfold Builtin.Slice.sliceAdjust
 simp only [h1,if_false]
 refine Prod.ext ?_ ?_
 ·cases lo with
  | none=>rfl
  | some v=>exact zK2 v n 0
 ·cases hi with
  | none=>rfl
  | some v=>exact zK2 v n n
theorem zJ3 (i j:Nat):Builtin.Slice.slicePlaces (i:Int) (j:Int) 1=j - i:=by
 unfold Builtin.Slice.slicePlaces
 have h1:(1:Int) > 0:=by omega
 simp only [h1,if_true,Int.ediv_one]
 split <;> omega
theorem zE3 {v:Value} {o:Option Int} {Q:Option Int→Shared→Prop} (p:IsPart v o) (h:Q o s):wpAny (model prog w) A (Builtin.Slice.slicePartIndex v) Q E s:=by
 cases p with
 | none=>exact slicePart_none h
 | int i t=>exact slicePart_int h
theorem sliceApplied_gen {sl:Addr} {vl vu:Value} {lo hi:Option Int} {n:Nat} {Q:Int × Int × Nat→Shared→Prop} (hs:s.heap.IsSliceOf sl vl vu .none) (pl:IsPart vl lo) (pu:IsPart vu hi)
  (h:Q (((sIx n 0 lo:Nat):Int),1,sIx n n hi - sIx n 0 lo) s):wpAny (model prog w) A (Builtin.Slice.sliceApplied (.ref sl) (pure (n:Int))) Q E s:=by
 obtain ⟨os,hos,hcs,hds⟩:=id hs
 unfold Builtin.Slice.sliceApplied Builtin.Slice.sliceFields
 refine wpAny_bind (wpAny_bind (wpAny_field hos hds (x:=vl) rfl (wpAny_bind (wpAny_field hos hds (x:=vu) rfl (wpAny_bind (wpAny_field hos hds (x:=.none) rfl (wpAny_pure ?_)))))))
 refine wpAny_bind (slicePart_none ?_)
 show wpAny _ _ (if ((1:Int) == 0)=true then _ else _) _ _ s
 rw [if_neg (by decide)]
 refine wpAny_bind (zE3 pl (wpAny_bind (zE3 pu (wpAny_bind (wpAny_pure ?_)))))
 show wpAny _ _ (match Builtin.Slice.sliceAdjust lo hi 1 (n:Int) with | (lo,hi)=>pure (lo,(1:Int),Builtin.Slice.slicePlaces lo hi 1)) _ _ s
 rw [zJ2 lo hi n]
 show wpAny _ _ (pure (((sIx n 0 lo:Nat):Int),(1:Int),Builtin.Slice.slicePlaces ((sIx n 0 lo:Nat):Int) ((sIx n n hi:Nat):Int) 1)) _ _ s
 rw [zJ3]
 exact wpAny_pure h
theorem zM4 (xs:Array Value) (i k:Nat):((List.range k).filterMap fun (m:Nat)=>xs[((i:Int)+(m:Int) * 1).toNat]?).toArray=((xs.toList.drop i).take k).toArray:=by
 have e:(fun (m:Nat)=>xs[((i:Int)+(m:Int) * 1).toNat]?)=fun m=>xs[i+m]?:=by
  funext m
  have:((i:Int)+(m:Int) * 1).toNat=i+m:=by omega
  rw [this]
 rw [e]
 have:=pick_run xs i k
 rw [List.filterMap_map] at this
 have e2:((fun x=>xs[x]?) ∘ fun x=>i+x)=fun m=>xs[i+m]?:=rfl
 rw [e2] at this
 rw [this]
theorem getItem_tuple_cut {t sl:Addr} {items:Array Value} {vl vu:Value} {lo hi:Option Int} {Q:Value→Shared→Prop} (ht:IsTup s.heap t items) (hs:s.heap.IsSliceOf sl vl vu .none) (pl:IsPart vl lo) (pu:IsPart vu hi)
  (hw:¬ (sIx items.size 0 lo=0∧sIx items.size items.size hi=items.size))
  (h:Q (.ref s.heap.objs.size) { s with heap:=s.heap.push { cls:=.type "tuple",data:=.seq ((items.toList.drop (sIx items.size 0 lo)).take (sIx items.size items.size hi - sIx items.size 0 lo)).toArray } })
  (hsz:items.size≤sizeLine):wpAny (model prog w) A (getItem (.ref t) (.ref sl)) Q E s:=by
 have htake:sizeOk (.seq ((items.toList.drop (sIx items.size 0 lo)).take (sIx items.size items.size hi - sIx items.size 0 lo)).toArray):=by
  show ((items.toList.drop (sIx items.size 0 lo)).take (sIx items.size items.size hi - sIx items.size 0 lo)).toArray.size≤sizeLine
  rw [List.size_toArray,List.length_take,List.length_drop,Array.length_toList]
  omega
 have hj:sIx items.size items.size hi≤items.size:=zR9 _ _ (Nat.le_refl _) hi
 obtain ⟨os,hos,hcs,hds⟩:=id hs
 have hTs:s.TypeIs (.ref sl) "slice":=⟨os,hos,hcs⟩
 unfold getItem
 try with_reducible refine wpAny_holding ?_
 first | refine wpAny_bind (wpAny_pure ?_) | skip
 refine wpAny_bind (wpAny_sequenceKey ht.typeIs (by decide) ?_)
 refine wpAny_bind (wpAny_callSpecial?_slot (name:=Str.ofString "__getitem__") ht.typeIs PyProof.Rows.slot_tuple_getitem
  (wpAny_call_entry PyProof.Rows.slot_tuple_getitem ht.typeIs entry_tuple_getitem ?_ (args_tuple_getitem _ _)))
 show wpAny _ _ (Builtin.Tuple.tupleItemsOf (.ref t) >>= _) _ _ s
 refine wpAny_bind (tupleItemsOf_ ht ?_)
 refine wpAny_bind (wpAny_typeOf hTs ?_)
 rw [if_pos (by decide)]
 refine wpAny_bind (sliceApplied_gen hs pl pu ?_)
 have hno:¬ ((((sIx items.size 0 lo:Nat):Int) == 0 && (1:Int) == 1 && (sIx items.size items.size hi - sIx items.size 0 lo) == items.size)=true):=by
  intro q
  rw [Bool.and_eq_true,Bool.and_eq_true] at q
  have q1:((sIx items.size 0 lo:Nat):Int)=0:=eq_of_beq q.1.1
  have q2:sIx items.size items.size hi - sIx items.size 0 lo=items.size:=eq_of_beq q.2
  exact hw ⟨by omega,by omega⟩
 show wpAny _ _ (if (((sIx items.size 0 lo:Nat):Int) == 0 && (1:Int) == 1 && (sIx items.size items.size hi - sIx items.size 0 lo) == items.size)=true then _ else _) _ _ s
 rw [if_neg hno,zM4]
 first
  | exact wpAny_bind (m:=Builtin.Tuple.tupleExact _) (wpAny_newObj_type (wpAny_pure ⟨_,rfl,wpAny_pure h⟩) htake)
  | exact wpAny_bind (m:=Builtin.Tuple.tupleExact _) (wpAny_newObj_type (wpAny_bind (wpAny_pure (wpAny_pure ⟨_,rfl,wpAny_pure h⟩))) htake)
  | exact wpAny_bind (wpAny_bind (m:=Builtin.Tuple.tupleExact _) (wpAny_newObj_type (wpAny_pure (wpAny_pure ⟨_,rfl,wpAny_pure h⟩)) htake))
  | exact wpAny_bind (wpAny_bind (m:=Builtin.Tuple.tupleExact _) (wpAny_newObj_type (wpAny_pure ⟨_,rfl,wpAny_pure h⟩) htake))
end
end HT
namespace L2
open PySem PySem.Spec PyProof.Rows
noncomputable abbrev TO:=St→Hp→(Option Int→Hp→Prop)→Prop
noncomputable def PO (X:Cx) (e:Option Expr) (t:TO):Prop :=
 ∀ (pins:List (Addr × Obj)) (s:Shared) (σ:St) (H:Hp) (Q:Option Int→Hp→Prop),Inv X pins σ H s→t σ H Q →
  wpAny (model X.prog X.w) X.A (evalPart e X.env) (fun u s'=>∃ o H',Inv X pins σ H' s'∧IsPart u o∧Q o H') X.xe s
noncomputable def zPS:TO:=fun _ H Q=>Q none H
noncomputable def tPart (t:TE):TO:=fun σ H Q=>t σ H fun x H1=>∃ i,x=.int i∧Q (some i) H1
theorem zBV {ns:List Int}:∀ {us:List Value},Vals (ns.map V.int) us→IntsAre us ns:=by
 induction ns with
 | nil=>intro us r; rw [List.map_nil] at r; cases r; exact .nil
 | cons n ns ih =>
  intro us r
  rw [List.map_cons] at r
  cases r with
  | cons r1 r2 =>
   obtain ⟨t,e⟩:=r1
   subst e
   exact .cons n t (ih r2)
section
variable {X:Cx} {e:Expr} {te:TE} {lo hi:Option Expr} {tl th:TO} {pos p2:Pos}
theorem po_none:PO X none zPS:=by
 intro pins s σ H Q I h
 rw [evalPart_none]
 exact wpAny_pure ⟨none,H,I,.none,h⟩
theorem zPT (h:PE X e te):PO X (some e) (tPart te):=by
 intro pins s σ H Q I hw
 rw [evalPart_some]
 refine thn (h pins s σ H _ I hw) fun u s1 ⟨x,H1,I1,r1,q1⟩=>?_
 obtain ⟨i,rfl,q⟩:=q1
 obtain ⟨t,rfl⟩:=r1
 exact ⟨some i,H1,I1,.int i t,q⟩
noncomputable def SlR (X:Cx) (r:V→Option Int→Option Int→Hp→VK→Prop):Prop :=
 ∀ (pins:List (Addr × Obj)) (s:Shared) (σ:St) (H:Hp) (x:V) (v vl vu:Value) (lo hi:Option Int) (sl:Addr) (Q:VK),Inv X pins σ H s→RelV x v→s.heap.IsSliceOf sl vl vu .none→IsPart vl lo→IsPart vu hi→r x lo hi H Q →
  ∃ T id,typeLookup (.type T) "__getitem__"=pure (some (.builtin id))∧s.TypeIs v T∧wpAny (model X.prog X.w) X.A (getItem v (.ref sl)) (EP X pins σ Q) X.xe s
theorem SlR.or {r r':V→Option Int→Option Int→Hp→VK→Prop} (h:SlR X r) (h':SlR X r'):SlR X (fun x lo hi H Q=>r x lo hi H Q∨r' x lo hi H Q):=by
 intro pins s σ H x v vl vu lo hi sl Q I rx hs pl pu q
 rcases q with q | q
 ·exact h pins s σ H x v vl vu lo hi sl Q I rx hs pl pu q
 ·exact h' pins s σ H x v vl vu lo hi sl Q I rx hs pl pu q
noncomputable def tSl (r:V→Option Int→Option Int→Hp→VK→Prop) (te:TE) (tl th:TO):TE:=fun σ H Q=>te σ H fun x H1=>tl σ H1 fun l H2=>th σ H2 fun u H3=>r x l u H3 Q
theorem zM5 {r:V→Option Int→Option Int→Hp→VK→Prop} (hr:SlR X r) (he:PE X e te) (hl:PO X lo tl) (hu:PO X hi th):PE X (.Subscript e (.Slice lo hi none p2) pos) (tSl r te tl th):=by
 intro pins s σ H Q I h
 refine Subscript_ (thn (he pins s σ H _ I h) fun v s1 ⟨x,H1,I1,r1,q1⟩=>?_)
 refine wpAny_Slice (thn (hl pins s1 σ H1 _ I1 q1) fun vl s2 ⟨l,H2,I2,pl,q2⟩=>thn (hu pins s2 σ H2 _ I2 q2) fun vu s3 ⟨u,H3,I3,pu,q3⟩=>?_)
 rw [evalPart_none]
 refine wpAny_pure ?_
 have I4:Inv X pins σ H3 { s3 with heap:=s3.heap.push { cls:=.type "slice",data:=.fields #[vl,vu,.none] } }:=I3.kept (t':=s3.toks) fun b ob q=>Heap.get?_push_of_some _ q
 obtain ⟨T,id,hT,ht,hg⟩:=hr pins { s3 with heap:=s3.heap.push { cls:=.type "slice",data:=.fields #[vl,vu,.none] } } σ H3 x v vl vu l u s3.heap.objs.size Q I4 r1 (Heap.IsSliceOf.new ..) pl pu q3
 show wpAny (model X.prog X.w) X.A (subscriptTail e (.Slice lo hi none p2) v (.ref s3.heap.objs.size)) (EP X pins σ Q) X.xe { s3 with heap:=s3.heap.push { cls:=.type "slice",data:=.fields #[vl,vu,.none] } }
 exact tail_any (ops:=[.ref s3.heap.objs.size,v]) ht hT hg (by with_unfolding_all rfl)
noncomputable def cutV (xs:List V) (lo hi:Option Int):List V:=(xs.drop (HT.sIx xs.length 0 lo)).take (HT.sIx xs.length xs.length hi - HT.sIx xs.length 0 lo)
theorem zD7 (xs:List V) (lo hi:Option Int):(cutV xs lo hi).length≤xs.length:=by
 unfold cutV
 rw [List.length_take,List.length_drop]
 omega
noncomputable def rSlT (K:PySem.W.Frag):V→Option Int→Option Int→Hp→VK→Prop:=fun x lo hi H Q=>∃ a xs,x=.ref a∧SqT K H a xs ∧
 ¬ (HT.sIx xs.length 0 lo=0∧HT.sIx xs.length xs.length hi=xs.length)∧∀ p,H p=none→Q (.ref p) (upd H p (.tup (cutV xs lo hi)))
theorem zSA:SlR X (rSlT X.K):=by
 intro pins s σ H x v vl vu lo hi sl Q I rx hs pl pu h
 obtain ⟨a,xs,rfl,hx,hw,q⟩:=h
 cases rx
 obtain ⟨its,r,ht,hz⟩:=I.tuple hx
 have hlen:its.toArray.size=xs.length:=by rw [List.size_toArray]; exact r.length.symm
 refine ⟨"tuple",_,PyProof.Rows.slot_tuple_getitem.lookup,ht.typeIs,?_⟩
 refine HT.getItem_tuple_cut ht hs pl pu (by rw [hlen]; exact hw) ?_ (by rw [hlen]; exact hz)
 rw [hlen]
 refine ⟨.ref s.heap.objs.size,_,I.laid (t':=s.toks) (o:=.tup (cutV xs lo hi)) (fun b ob q=>Heap.get?_push_of_some _ q) (Nat.le_refl _) ?_,rfl,q _ (I.hok.fresh (Nat.le_refl _))⟩
 exact ⟨Nat.le_trans (zD7 xs lo hi) hz,_,(r.drop (HT.sIx xs.length 0 lo)).take (HT.sIx xs.length xs.length hi - HT.sIx xs.length 0 lo),IsTupP.new _ _⟩
noncomputable def rLtT (K:PySem.W.Frag):R2:=fun x y H Q=>∃ a b ns ms,x=.ref a∧y=.ref b∧SqT K H a (ns.map V.int)∧SqT K H b (ms.map V.int)∧Q (.bl (HT.lexLt ns ms)) H
theorem zK3 (hu:X.A.units<cLine):OpR X (compareOp .Lt) (rLtT X.K):=by
 intro pins s σ H x y v u Q I rx ry h
 obtain ⟨a,b,ns,ms,rfl,rfl,ha,hb,q⟩:=h
 cases rx
 cases ry
 obtain ⟨its,r1,p1,_⟩:=I.tuple ha
 obtain ⟨its2,r2,p2,_⟩:=I.tuple hb
 have i1:IntsAre its.toArray.toList ns:=zBV r1
 have i2:IntsAre its2.toArray.toList ms:=zBV r2
 exact HT.lt_tupInts p1 p2 i1 i2 hu ⟨.bl (HT.lexLt ns ms),H,I,rfl,q⟩
theorem Vals.nil_iff {xs:List V} {us:List Value} (r:Vals xs us):us=[]↔xs=[]:=by
 cases r with
 | nil=>simp
 | cons _ _=>simp
end
end L2
namespace L2
open PySem PySem.Spec PyProof.Rows
noncomputable def ixN (n:Nat) (i:Int):Option Nat:=if 0≤i then (if i<n then some i.toNat else none) else if -(n:Int)≤i then some (i+n).toNat else none
noncomputable def atI {α:Type} (xs:List α) (i:Int):Option α:=(ixN xs.length i).bind fun j=>xs[j]?
theorem zK4 {n:Nat} {i:Int} {j:Nat} (h:ixN n i=some j):seqIndex? i n=some j∧j<n∧-(n:Int)≤i∧i<n:=by
 unfold ixN at h
 by_cases h0:0≤i
 ·rw [if_pos h0] at h
  by_cases h1:i<n
  ·rw [if_pos h1] at h
   have e:i.toNat=j:=Option.some.inj h
   exact ⟨by rw [seqIndex_of h0 h1,e],by omega,by omega,h1⟩
  ·rw [if_neg h1] at h; cases h
 ·rw [if_neg h0] at h
  by_cases h1:-(n:Int)≤i
  ·rw [if_pos h1] at h
   have e:(i+n).toNat=j:=Option.some.inj h
   exact ⟨by rw [seqIndex_neg (by omega) h1,e],by omega,h1,by omega⟩
  ·rw [if_neg h1] at h; cases h
theorem zHZ {α:Type} {xs:List α} {i:Int} {v:α} (h:atI xs i=some v):∃ j,seqIndex? i xs.length=some j∧xs[j]?=some v∧j<xs.length∧-(xs.length:Int)≤i∧i<xs.length:=by
 unfold atI at h
 cases e:ixN xs.length i with
 | none=>rw [e] at h; cases h
 | some j =>
  rw [e] at h
  obtain ⟨h1,h2,h3,h4⟩:=zK4 e
  exact ⟨j,h1,h,h2,h3,h4⟩
theorem zK5 {α:Type} {xs:List α} {j:Nat} {v:α} (h:xs[j]?=some v):atI xs (j:Int)=some v:=by
 have hj:j<xs.length:=(List.getElem?_eq_some_iff.mp h).1
 have e:ixN xs.length (j:Int)=some j:=by
  unfold ixN
  rw [if_pos (by omega),if_pos (by omega)]; simp
 unfold atI; rw [e]; exact h
noncomputable def zK6 (b:Expr):Prop:=∀ o i,subscripted b false o i=operate [o,i] (getItem o i)
noncomputable def IxR (X:Cx) (r:R2):Prop :=
 ∀ (value slice:Expr) (pins:List (Addr × Obj)) (s:Shared) (σ:St) (H:Hp) (x y:V) (v u:Value) (Q:VK),Inv X pins σ H s→RelV x v→RelV y u→r x y H Q →
  subscripted slice false v u=operate [v,u] (getItem v u)→wpAny (model X.prog X.w) X.A (subscriptTail value slice v u) (EP X pins σ Q) X.xe s
noncomputable def MtR (X:Cx) (id:String) (r:V→List V→Hp→VK→Prop):Prop :=
 ∀ (pins:List (Addr × Obj)) (s:Shared) (σ:St) (H:Hp) (x:V) (xs:List V) (v:Value) (us:List Value) (Q:VK),Inv X pins σ H s→RelV x v→Vals xs us→r x xs H Q →
  wpAny (model X.prog X.w) X.A (call (.builtin id) (v::us)) (EP X pins σ Q) X.xe s
section
variable {X:Cx} {a b:Expr} {ta tb:TE} {pos:Pos}
theorem IxR.or {r r':R2} (h:IxR X r) (h':IxR X r'):IxR X (fun x y H Q=>r x y H Q∨r' x y H Q):=by
 intro value slice pins s σ H x y v u Q I rx ry q hs
 rcases q with q | q
 ·exact h value slice pins s σ H x y v u Q I rx ry q hs
 ·exact h' value slice pins s σ H x y v u Q I rx ry q hs
theorem pe_ix {r:R2} (hr:IxR X r) (ha:PE X a ta) (hb:PE X b tb) (hs:zK6 b):PE X (.Subscript a b pos) (tOp r ta tb):=by
 intro pins s σ H Q I h
 exact Subscript_ (binT ha hb I h fun v u s2 x y H2 I2 rx ry q=>hr a b pins s2 σ H2 x y v u Q I2 rx ry q (hs _ _))
noncomputable def rIxL (K:PySem.W.Frag):R2:=fun x y H Q=>∃ p xs i v,x=.ref p∧y=.int i∧SqL K H p xs∧atI xs i=some v∧Q v H
noncomputable def rIxT (K:PySem.W.Frag):R2:=fun x y H Q=>∃ p xs i v,x=.ref p∧y=.int i∧SqT K H p xs∧atI xs i=some v∧Q v H
noncomputable def rIxS:R2:=fun x y H Q=>∃ z i c,x=.str z∧y=.int i∧z.length≤sizeLine∧atI z.cps.toList i=some c∧Q (.str ⟨#[c]⟩) H
theorem ix_list:IxR X (rIxL X.K):=by
 intro value slice pins s σ H x y v u Q I rx ry h hs
 obtain ⟨p,xs,i,z,rfl,rfl,hq,he,q⟩:=h
 cases rx
 obtain ⟨t,rfl⟩:=ry
 obtain ⟨its,r,pl,hz⟩:=I.list hq
 obtain ⟨j,h1,h2,h3,h4,h5⟩:=zHZ he
 obtain ⟨w,ew,rw'⟩:=r.get h2
 have hl:=r.length
 have hn:=zDP
 have fin:EP X pins σ Q w s:=⟨z,H,I,rw',q⟩
 by_cases h0:0≤i
 ·have hj:i.toNat=j:=by
   rw [seqIndex_of h0 h5] at h1
   exact Option.some.inj h1
  exact item_listR pl.isList h0 (by omega) (by rw [hj]; simpa using ew) fin hs
 ·have hj:(i+(its.toArray.size:Int)).toNat=j:=by
   rw [seqIndex_neg (by omega) h4] at h1
   rw [List.size_toArray,← hl]
   exact Option.some.inj h1
  exact subscriptTail_builtinR (x:=w) pl.isList.typeIs slot_list_getitem.lookup
   (wpAny_getItem_list_neg (Q:=fun r s'=>r=w∧EP X pins σ Q r s') pl.isList (by omega) (by rw [List.size_toArray] <;> omega) (by omega) (by rw [hj]; simpa using ew) ⟨rfl,fin⟩) hs
theorem ix_tup:IxR X (rIxT X.K):=by
 intro value slice pins s σ H x y v u Q I rx ry h hs
 obtain ⟨p,xs,i,z,rfl,rfl,hq,he,q⟩:=h
 cases rx
 obtain ⟨t,rfl⟩:=ry
 obtain ⟨its,r,pl,hz⟩:=I.tuple hq
 obtain ⟨j,h1,h2,h3,h4,h5⟩:=zHZ he
 obtain ⟨w,ew,rw'⟩:=r.get h2
 have hl:=r.length
 have hn:=zDP
 have fin:EP X pins σ Q w s:=⟨z,H,I,rw',q⟩
 exact subscriptTail_builtinR (x:=w) pl.typeIs slot_tuple_getitem.lookup
  (getItem_tuple (j:=j) (Q:=fun r s'=>r=w∧EP X pins σ Q r s') pl (by omega) (by omega) (by rw [List.size_toArray,← hl]; exact h1) (by simpa using ew) ⟨rfl,fin⟩) hs
theorem zSB:IxR X rIxS:=by
 intro value slice pins s σ H x y v u Q I rx ry h hs
 obtain ⟨z,i,c,rfl,rfl,hz,he,q⟩:=h
 obtain ⟨t,rfl⟩:=rx
 obtain ⟨t',rfl⟩:=ry
 obtain ⟨j,h1,h2,h3,h4,h5⟩:=zHZ he
 have hl:z.cps.toList.length=z.length:=by simp [Str.length]
 rw [hl] at h1 h4 h5
 have hn:=zDP
 exact tail_any (typeIs_str s z t) slot_str_getitem.lookup (getItem_str (c:=c) (by
  have e1:decide (i < -(2 ^ 63:Int))=false:=decide_eq_false (by omega)
  have e2:decide (i ≥ 2 ^ 63)=false:=decide_eq_false (by omega)
  rw [e1,e2,Bool.or_false]) (by rw [h1]; simpa using h2) ⟨.str ⟨#[c]⟩,H,I.tok _,⟨_,rfl⟩,q⟩) hs
noncomputable def rIx (K:PySem.W.Frag):R2:=fun x y H Q=>rIxL K x y H Q∨rIxT K x y H Q∨rIxS x y H Q
theorem ix_seq:IxR X (rIx X.K):=ix_list.or (ix_tup.or zSB)
theorem zJ4 (its:List Value) (n j:Nat) (u:Value):Obj.mapSeq (·.setIfInBounds j u) { cls:=.type "list",data:=.seq its.toArray n }={ cls:=.type "list",data:=.seq (its.set j u).toArray n }:=by
 simp [Obj.mapSeq]
theorem Inv.lst {pins:List (Addr × Obj)} {σ:St} {H:Hp} {s:Shared} {p:Addr} {xs:List V} (I:Inv X pins σ H s) (h:H p=some (.lst xs)) :
  ∃ (its:List Value) (n:Nat),Vals xs its∧s.heap.get? p=some { cls:=.type "list",data:=.seq its.toArray n }∧xs.length≤sizeLine:=by
 obtain ⟨z,its,n,r,e⟩:=I.hok p _ h
 exact ⟨its,n,r,e,z⟩
theorem Inv.lstUpd {pins:List (Addr × Obj)} {σ:St} {H:Hp} {s:Shared} {p:Addr} {xs ys:List V} {its its':List Value} {n n':Nat} {f:Obj→Obj} (I:Inv X pins σ H s) (h:H p=some (.lst xs))
  (ho:s.heap.get? p=some { cls:=.type "list",data:=.seq its.toArray n }) (hf:f { cls:=.type "list",data:=.seq its.toArray n }={ cls:=.type "list",data:=.seq its'.toArray n' }) (r:Vals ys its') (hz:ys.length≤sizeLine) (t:Nat) :
  Inv X pins σ (upd H p (.lst ys)) { s with heap:=s.heap.update p f,toks:=t }:=by
 have e:(s.heap.update p f).get? p=some { cls:=.type "list",data:=.seq its'.toArray n' }:=by
  rw [Heap.get?_update_self f ho (by rw [hf] <;> rfl),hf]
 refine I.write (x:=p) (e:=p) (by rw [h]; trivial) (.inl rfl) (fun b u hb q=>(Heap.get?_update_other _ _ (Ne.symm hb)).trans q) ⟨_,e⟩ ?_
 exact ⟨hz,its',n',r,e⟩
noncomputable def rSetL:V→V→V→Hp→(Hp→Prop)→Prop:=fun o i v H Q=>∃ p xs k j,o=.ref p∧i=.int k∧H p=some (.lst xs)∧ixN xs.length k=some j∧Q (upd H p (.lst (xs.set j v)))
theorem zM6:PSet X rSetL:=by
 intro pins s σ H o i v ov iv u Q I ro ri rv h
 obtain ⟨p,xs,k,j,rfl,rfl,hp,hj,q⟩:=h
 cases ro
 obtain ⟨t,rfl⟩:=ri
 obtain ⟨its,n,r,ho,hz⟩:=I.lst hp
 obtain ⟨h1,h2,h3,h4⟩:=zK4 hj
 have hl:=r.length
 have hn:=zDP
 have I':Inv X pins σ (upd H p (.lst (xs.set j v))) { s with heap:=s.heap.update p (Obj.mapSeq (·.setIfInBounds j u)) } :=
  I.lstUpd hp ho (zJ4 its n j u) (r.set rv j) (by rw [List.length_set]; exact hz) s.toks
 by_cases h0:0≤k
 ·have hk:k.toNat=j:=by
   rw [seqIndex_of h0 h4] at h1
   exact Option.some.inj h1
  exact PySem.W.ki_setAt ho h0 (by omega) (by rw [List.size_toArray,← hl]; exact h4) (by rw [hk]; exact ⟨_,I',q⟩)
 ·have hk:(k+(its.toArray.size:Int)).toNat=j:=by
   rw [seqIndex_neg (by omega) h3] at h1
   rw [List.size_toArray,← hl]
   exact Option.some.inj h1
  exact PySem.W.ki_setBack ho (by omega) (by rw [List.size_toArray,← hl]; exact h3) (by omega) (by rw [hk]; exact ⟨_,I',q⟩)
theorem zGU (lo hi:Option Int) (n:Nat):(sliceBounds lo hi none n).1=((HT.sIx n 0 lo:Nat):Int)∧(sliceBounds lo hi none n).2.1=((HT.sIx n n hi:Nat):Int)∧(sliceBounds lo hi none n).2.2=1:=by
 refine ⟨?_,?_,rfl⟩
 ·cases lo with
  | none=>simp [sliceBounds,HT.sIx]
  | some i =>
   simp only [sliceBounds,HT.sIx,Option.getD_none,show (1:Int) > 0 by decide,if_true]
   by_cases h:i<0
   ·simp only [h,if_true] <;> omega
   ·simp only [h,if_false] <;> omega
 ·cases hi with
  | none=>simp [sliceBounds,HT.sIx]
  | some i =>
   simp only [sliceBounds,HT.sIx,Option.getD_none,show (1:Int) > 0 by decide,if_true]
   by_cases h:i<0
   ·simp only [h,if_true] <;> omega
   ·simp only [h,if_false] <;> omega
theorem zFX (its:List Value) (lo hi:Option Int):slicePick its.toArray lo hi none=((its.drop (HT.sIx its.length 0 lo)).take (HT.sIx its.length its.length hi - HT.sIx its.length 0 lo)).toArray:=by
 obtain ⟨h1,h2,h3⟩:=zGU lo hi its.toArray.size
 unfold slicePick
 rw [h1,h2,h3]
 simp only [sliceRange_one,pick_run,List.size_toArray] <;> rfl
noncomputable def rSlL (K:PySem.W.Frag):V→Option Int→Option Int→Hp→VK→Prop:=fun x lo hi H Q=>∃ a xs,x=.ref a∧SqL K H a xs∧∀ p,H p=none→Q (.ref p) (upd H p (.lst (cutV xs lo hi)))
theorem zPU:SlR X (rSlL X.K):=by
 intro pins s σ H x v vl vu lo hi sl Q I rx hs pl pu h
 obtain ⟨a,xs,rfl,hx,q⟩:=h
 cases rx
 obtain ⟨its,r,ht,hz⟩:=I.list hx
 have hlen:=r.length
 refine ⟨"list",_,slot_list_getitem.lookup,ht.isList.typeIs,?_⟩
 refine wpAny_getItem_list_slice ht.isList hs pl pu .none (by simp) ?_ (by rw [List.size_toArray] <;> omega)
 rw [zFX,← hlen]
 refine ⟨.ref s.heap.objs.size,_,I.laid (t':=s.toks) (o:=.lst (cutV xs lo hi)) (fun b ob q=>Heap.get?_push_of_some _ q) (Nat.le_refl _) ?_,rfl,q _ (I.hok.fresh (Nat.le_refl _))⟩
 exact ⟨Nat.le_trans (zD7 xs lo hi) hz,_,0,(r.drop (HT.sIx xs.length 0 lo)).take (HT.sIx xs.length xs.length hi - HT.sIx xs.length 0 lo),Heap.get?_push_size _ rfl⟩
theorem call_len_seq:CallR X (.builtin "len") (fun xs H Q=>∃ p ys,xs=[.ref p]∧(SqL X.K H p ys∨SqT X.K H p ys)∧Q (.int ys.length) H):=by
 intro pins s σ H xs us Q I r h
 obtain ⟨p,ys,rfl,hq,q⟩:=h
 obtain ⟨u,rfl,rx⟩:=vals1 r
 cases rx
 have hn:=zDP
 rcases hq with hq | hq
 ·obtain ⟨its,r',pl,hz⟩:=I.list hq
  have hlen:=r'.length
  exact Calls.call_len_list pl.isList (by simp only [List.size_toArray] <;> omega) ⟨.int ys.length,H,I.tok _,⟨s.toks+1,by rw [List.size_toArray,hlen]⟩,q⟩
 ·obtain ⟨its,r',pl,hz⟩:=I.tuple hq
  have hlen:=r'.length
  exact len_tuple pl (by simp only [List.size_toArray] <;> omega) ⟨.int ys.length,H,I.tok _,⟨s.toks+1,by rw [List.size_toArray,hlen]⟩,q⟩
theorem call_len_str:CallR X (.builtin "len") (fun xs H Q=>∃ z,xs=[.str z]∧z.length≤sizeLine∧Q (.int z.length) H):=by
 intro pins s σ H xs us Q I r h
 obtain ⟨z,rfl,hz,q⟩:=h
 obtain ⟨u,rfl,t,rfl⟩:=vals1 r
 have hn:=zDP
 exact len_str (by omega) ⟨.int z.length,H,I.tok _,⟨_,rfl⟩,q⟩
theorem CallR.or {f:Value} {r r':List V→Hp→VK→Prop} (h:CallR X f r) (h':CallR X f r'):CallR X f (fun xs H Q=>r xs H Q∨r' xs H Q):=by
 intro pins s σ H xs us Q I rs q
 rcases q with q | q
 ·exact h pins s σ H xs us Q I rs q
 ·exact h' pins s σ H xs us Q I rs q
theorem call_list_of:CallR X (.type "list") (fun xs H Q=>∃ p ys,xs=[.ref p]∧(SqL X.K H p ys∨SqT X.K H p ys)∧∀ l,H l=none→Q (.ref l) (upd H l (.lst ys))):=by
 intro pins s σ H xs us Q I r h
 obtain ⟨p,ys,rfl,hq,q⟩:=h
 obtain ⟨u,rfl,rx⟩:=vals1 r
 cases rx
 have fin:∀ (its:List Value),Vals ys its→ys.length≤sizeLine→∀ (h':Heap) (c':Nat),(∀ b o',s.heap.get? b=some o'→h'.get? b=some o') →
   h'.get? s.heap.objs.size=some { cls:=.type "list",dict:=none,data:=.seq its.toArray c',slots:=#[] }→EP X pins σ Q (.ref s.heap.objs.size) { s with heap:=h' }:=fun its r' hz h' c' kp e =>
  ⟨.ref s.heap.objs.size,_,I.laid (t':=s.toks) kp (Nat.le_refl _) (show ObjOk X.prog X.w _ h' _ (.lst ys) from ⟨hz,its,c',r',e⟩),rfl,q _ (I.hok.fresh (Nat.le_refl _))⟩
 rcases hq with hq | hq
 ·obtain ⟨its,r',pl,hz⟩:=I.list hq
  have hlen:=r'.length
  obtain ⟨o,ho,hc,n,hd⟩:=pl.isList
  exact call_list_seq p (.inl rfl) ho hc hd (fun h' c' kp e=>fin its r' hz h' c' kp e) (by simp only [List.size_toArray] <;> omega)
 ·obtain ⟨its,r',pl,hz⟩:=I.tuple hq
  have hlen:=r'.length
  obtain ⟨o,ho,hc,n,hd⟩:=pl
  exact call_list_seq p (.inr rfl) ho hc hd (fun h' c' kp e=>fin its r' hz h' c' kp e) (by simp only [List.size_toArray] <;> omega)
theorem zFY:CallR X (.type "tuple") (fun xs H Q=>∃ p ys,xs=[.ref p]∧((SqL X.K H p ys∧∀ l,H l=none→Q (.ref l) (upd H l (.tup ys)))∨(SqT X.K H p ys∧Q (.ref p) H))):=by
 intro pins s σ H xs us Q I r h
 obtain ⟨p,ys,rfl,h⟩:=h
 obtain ⟨u,rfl,rx⟩:=vals1 r
 cases rx
 rcases h with ⟨hq,q⟩ | ⟨hq,q⟩
 ·obtain ⟨its,r',pl,hz⟩:=I.list hq
  have hlen:=r'.length
  refine call_tuple_list pl.isList (fun h' kp=>?_) (by simp only [List.size_toArray] <;> omega)
  have I1:Inv X pins σ H { s with heap:=h' }:=I.kept (t':=s.toks) kp
  have I2:Inv X pins σ (upd H h'.objs.size (.tup ys)) { s with heap:=h'.push { cls:=.type "tuple",data:=.seq its.toArray } } :=
   I1.laid (t':=s.toks) (fun b o e=>Heap.get?_push_of_some _ e) (Nat.le_refl _) (show ObjOk X.prog X.w _ _ _ (.tup ys) from ⟨hz,its,r',IsTupP.new _ _⟩)
  exact ⟨.ref h'.objs.size,_,I2,rfl,q _ (I1.hok.fresh (Nat.le_refl _))⟩
 ·obtain ⟨its,r',pl,hz⟩:=I.tuple hq
  exact call_tuple_same pl ⟨.ref p,H,I,rfl,q⟩
noncomputable def tyV (K:PySem.W.Frag) (T:String) (x:V) (H:Hp):Prop:=match x with
 | .str _=>T="str"
 | .int _=>T="int"
 | .ref p=>(T="list"∧∃ xs,SqL K H p xs)∨(T="tuple"∧∃ o,K.lookup p=some o∧o.cls=.type "tuple"∧o.dict=none) ∨
   (T="dict"∧((∃ kvs,H p=some (.dK kvs))∨∃ kvs,H p=some (.dT kvs)))∨(T="set"∧∃ S n,H p=some (.set S n))
 | _=>False
theorem zOR {pins:List (Addr × Obj)} {σ:St} {H:Hp} {s:Shared} {T:String} {x:V} {v:Value} (I:Inv X pins σ H s) (r:RelV x v) (ty:tyV X.K T x H) :
  s.TypeIs v T∧∀ a,v=.ref a→∃ ob,s.heap.get? a=some ob∧ob.dict=none:=by
 cases x with
 | str z =>
  obtain ⟨t,rfl⟩:=r
  cases (show T="str" from ty)
  exact ⟨typeIs_str s z t,fun _ e=>nomatch e⟩
 | int i =>
  obtain ⟨t,rfl⟩:=r
  cases (show T="int" from ty)
  exact ⟨typeIs_int s i t,fun _ e=>nomatch e⟩
 | ref p =>
  cases r
  rcases ty with ⟨rfl,xs,hq⟩ | ⟨rfl,o,hk,hc,hd⟩ | ⟨rfl,hk⟩ | ⟨rfl,S,n,hk⟩
  ·obtain ⟨its,_,pl,_⟩:=I.list hq
   refine ⟨pl.isList.typeIs,fun a e=>?_⟩
   cases e
   obtain ⟨o,n,e,c,hd,_⟩:=pl
   exact ⟨o,e,hd⟩
  ·refine ⟨⟨o,I.kIn p o hk,hc⟩,fun a e=>?_⟩
   cases e
   exact ⟨o,I.kIn _ o hk,hd⟩
  ·have z:∃ o,s.heap.get? p=some o∧o.ExactDict:=by
    rcases hk with ⟨kvs,hk⟩ | ⟨kvs,hk⟩
    ·obtain ⟨_,_,_,_,o,_,_,e,ex,_⟩:=I.hok p _ hk
     exact ⟨o,e,ex⟩
    ·obtain ⟨_,_,_,_,o,_,_,e,ex,_⟩:=I.hok p _ hk
     exact ⟨o,e,ex⟩
   obtain ⟨o,e,ex⟩:=z
   refine ⟨⟨o,e,ex.1⟩,fun a e2=>?_⟩
   cases e2
   exact ⟨o,e,ex.2.1⟩
  ·obtain ⟨o,_,_,_,e,ex,_⟩:=I.hok p _ hk
   refine ⟨⟨o,e,ex.1⟩,fun a e2=>?_⟩
   cases e2
   exact ⟨o,e,ex.2.1⟩
 | _=>exact False.elim ty
noncomputable def tBM0 (K:PySem.W.Frag) (T:String) (r:V→List V→Hp→VK→Prop) (to:TE):TE:=fun σ H Q=>to σ H fun x H1=>tyV K T x H1∧r x [] H1 Q
noncomputable def tBM (K:PySem.W.Frag) (T:String) (r:V→List V→Hp→VK→Prop) (to:TE) (t:TA):TE:=fun σ H Q=>to σ H fun x H1=>tyV K T x H1∧t σ H1 fun xs H2=>r x xs H2 Q
variable {o e:Expr} {es:List Expr} {to:TE} {t:TA} {name:Str} {apos cpos:Pos} {T id:String} {r:V→List V→Hp→VK→Prop}
theorem zSC (pa:PlainAttrs T) (slot:Slot T name id) (hty:typeOf (.builtin id)=pure (.type "method_descriptor")) (hm:MtR X id r) (ho:PE X o to)
  (hbase:attributeBase o name X.env (eval o X.env)=eval o X.env:=by rfl) (hline:(apos.endLine == cpos.line)=true:=by rfl):PE X (.Call (.Attribute o name apos) [] [] cpos) (tBM0 X.K T r to):=by
 intro pins s σ H Q I h
 refine wpAny_Call_method0_late hbase hline (thn (ho pins s σ H _ I h) fun v s1 ⟨x,H1,I1,r1,ty,q1⟩=>?_)
 obtain ⟨h1,h2⟩:=zOR I1 r1 ty
 exact ⟨T,id,pa,slot,hty,h1,h2,Calls.callWith_builtin rfl (PySem.evalArgs_none (hm pins s1 σ H1 x [] v [] Q I1 r1 .nil q1))⟩
theorem pe_bm (pa:PlainAttrs T) (slot:Slot T name id) (hty:typeOf (.builtin id)=pure (.type "method_descriptor")) (hm:MtR X id r) (ho:PE X o to) (ha:PA X (e::es) t)
  (hbase:attributeBase o name X.env (eval o X.env)=eval o X.env:=by rfl)
  (hfew:((backTo cpos (starEach (e::es) X.env)).all (fun x=>!x.1) && (backToKw cpos (keywordEach [] X.env)).all (fun x=>x.1.isSome)
   && decide ((e::es).length+([]:List Keyword).length+(if ([]:List Keyword).isEmpty then 0 else 1)<30))=true:=by rfl)
  (hline:(apos.endLine == cpos.line)=true:=by rfl) (hs:starEach (e::es) X.env=(false,eval e X.env)::starEach es X.env:=by rfl) (hplain:(backTo cpos (starEach es X.env)).any (·.1)=false:=by rfl) :
  PE X (.Call (.Attribute o name apos) (e::es) [] cpos) (tBM X.K T r to t):=by
 intro pins s σ H Q I h
 refine wpAny_Call_method_late hbase hfew hline rfl (thn (ho pins s σ H _ I h) fun v s1 ⟨x,H1,I1,r1,ty,q1⟩=>?_)
 obtain ⟨h1,h2⟩:=zOR I1 r1 ty
 refine ⟨T,id,pa,slot,hty,h1,h2,?_⟩
 have hA:=ha cpos pins s1 σ H1 _ I1 q1
 rw [hs] at hA ⊢
 refine Calls.callWith_builtin (by show (false || (backTo cpos (starEach es X.env)).any (·.1))=false; rw [hplain] <;> rfl) (Calls.evalArgs_plain ?_)
 exact thn hA fun us s2 ⟨vs,H2,I2,r2,q2⟩=>hm pins s2 σ H2 x vs v us Q I2 r1 r2 q2
/- xs.append(e),list.index on a module's tuple .. are MtR facts of 06m -/
end
end L2
namespace L2
open PySem PySem.Spec PyProof.Rows
noncomputable def MtM (X:Cx) (id:String) (r:V→List V→Hp→VK→Prop):Prop :=
 ∀ (pins:List (Addr × Obj)) (s:Shared) (σ:St) (H:Hp) (x:V) (xs:List V) (v:Value) (us:List Value) (Q:VK),Inv X pins σ H s→RelV x v→Vals xs us→r x xs H Q →
  wpAny (model X.prog X.w) X.A (call (.builtin id) (v::us)) (EP X pins σ Q) X.xe s
theorem Vals.one:∀ {x:V} {us:List Value},Vals [x] us→∃ u,us=[u]∧RelV x u
 | _,_,.cons r .nil=>⟨_,rfl,r⟩
theorem Vals.zero:∀ {us:List Value},Vals [] us→us=[]
 | _,.nil=>rfl
theorem Vals.dropLast {xs:List V} {us:List Value} (h:Vals xs us):Vals xs.dropLast us.dropLast:=by
 induction h with
 | nil=>exact .nil
 | cons r t ih =>
  cases t with
  | nil=>exact .nil
  | cons q t'=>exact .cons r ih
theorem Vals.eraseIdx:∀ {xs:List V} {us:List Value} (i:Nat),Vals xs us→Vals (xs.eraseIdx i) (us.eraseIdx i)
 | _,_,_,.nil=>.nil
 | _,_,0,.cons _ t=>t
 | _,_,i+1,.cons r t=>.cons r (Vals.eraseIdx i t)
theorem Vals.rep {xs:List V} {us:List Value} (h:Vals xs us):∀ k:Nat,Vals (List.replicate k xs).flatten (List.replicate k us).flatten
 | 0=>.nil
 | k+1=>by
  rw [List.replicate_succ,List.replicate_succ,List.flatten_cons,List.flatten_cons]
  exact Vals.append h (Vals.rep h k)
theorem zJ5 {α:Type} (l:List α):l.eraseIdx (l.length - 1)=l.dropLast:=by
 induction l with
 | nil=>rfl
 | cons a r ih =>
  cases r with
  | nil=>rfl
  | cons b r =>
   have e:(a::b::r).length - 1=((b::r).length - 1)+1:=by
    have h1:(a::b::r).length=r.length+2:=rfl
    have h2:(b::r).length=r.length+1:=rfl
    omega
   rw [e,List.eraseIdx_cons_succ,ih]
   all_goals rfl
theorem zGV {α:Type}:∀ (l:List α) (i:Nat),(l.eraseIdx i).length≤l.length
 | [],_=>Nat.le_refl _
 | _::_,0=>Nat.le_succ _
 | _::r,i+1=>Nat.succ_le_succ (zGV r i)
theorem zGW (its:List Value):∀ (k:Nat) (acc:List Value),
  List.foldl (fun x1 x2=>x1++x2) acc.toArray (List.replicate k its.toArray)=(acc++(List.replicate k its).flatten).toArray
 | 0,acc=>by simp
 | k+1,acc=>by
  have e:acc.toArray++its.toArray=(acc++its).toArray:=by simp
  have e2:(acc++its)++(List.replicate k its).flatten=acc++(List.replicate (k+1) its).flatten:=by
   rw [List.replicate_succ,List.flatten_cons,List.append_assoc]
  rw [← e2,← zGW its k (acc++its),← e,List.replicate_succ,List.foldl_cons]
section
variable {X:Cx} {pins:List (Addr × Obj)} {σ:St} {H:Hp} {s:Shared} {l b:Addr} {xs ys zs:List V}
theorem Inv.lset {its its':List Value} {n:Nat} {f:Array Value→Array Value} {t':Nat} (I:Inv X pins σ H s) (hH:H l=some (.lst xs))
  (e:s.heap.get? l=some { cls:=.type "list",data:=.seq its.toArray n }) (hf:f its.toArray=its'.toArray) (hv:Vals ys its') (hz:ys.length≤sizeLine) :
  Inv X pins σ (upd H l (.lst ys)) { s with heap:=s.heap.update l (Obj.mapSeq f),toks:=t' }:=by
 have q:=PySem.IsL.update e f
 rw [hf] at q
 refine I.write (x:=l) (e:=l) (by rw [hH]; exact trivial) (.inl rfl) (fun b' u hb hu=>(Heap.get?_update_other s.heap (Obj.mapSeq f) (Ne.symm hb)).trans hu) ⟨_,q⟩ ?_
 exact ⟨hz,its',_,hv,q⟩
theorem Inv.lnew {its:List Value} {t':Nat} (I:Inv X pins σ H s) (hv:Vals ys its) (hz:ys.length≤sizeLine) :
  Inv X pins σ (upd H s.heap.objs.size (.lst ys)) { s with heap:=s.heap.push { cls:=.type "list",data:=.seq its.toArray },toks:=t' } :=
 I.laid (fun _ _ q=>Heap.get?_push_of_some _ q) (Nat.le_refl _) ⟨hz,its,0,hv,Heap.get?_push_size _ rfl⟩
theorem Inv.fresh (I:Inv X pins σ H s):H s.heap.objs.size=none:=I.hok.fresh (Nat.le_refl _)
theorem Inv.lstM (I:Inv X pins σ H s) (hH:H l=some (.lst xs)):xs.length≤sizeLine∧∃ (its:List Value) (n:Nat),Vals xs its∧xs.length=its.length∧s.heap.get? l=some { cls:=.type "list",data:=.seq its.toArray n }:=by
 obtain ⟨z,its,n,r,e⟩:=I.hok l _ hH
 exact ⟨z,its,n,r,r.length,e⟩
theorem zM7 {n:Nat} (h:n≤sizeLine):Builtin.List.listTooLong n=false:=by
 unfold Builtin.List.listTooLong
 exact decide_eq_false (by omega)
end
section
variable {X:Cx}
noncomputable def zK7:V→List V→Hp→VK→Prop:=fun x vs H Q=>∃ l xs y,x=.ref l∧vs=[y]∧H l=some (.lst xs)∧xs.length<sizeLine∧Q .non (upd H l (.lst (xs++[y])))
theorem zD8:MtM X "list.append" zK7:=by
 intro pins s σ H x vs v us Q I rx rv h
 obtain ⟨l,xs,y,rfl,rfl,hH,hz,q⟩:=h
 cases rx
 obtain ⟨u,rfl,ru⟩:=rv.one
 obtain ⟨z,its,n,r,hl,e⟩:=I.lstM hH
 refine call_meets F.slot_list_append ⟨_,e,rfl⟩ F.entry_list_append (F.args_list_append_2 _ _) (PySem.list_append l its.toArray n u (by rw [List.size_toArray]; omega)) ⟨e,?_⟩
 refine ⟨.non,_,I.lset (its':=its++[u]) hH e (by simp) (r.append (.cons ru .nil)) ?_,rfl,q⟩
 rw [List.length_append,List.length_singleton]
 omega
noncomputable def rPop:V→List V→Hp→VK→Prop:=fun x vs H Q=>∃ l xs y,x=.ref l∧vs=[]∧H l=some (.lst xs)∧xs[xs.length - 1]?=some y∧Q y (upd H l (.lst xs.dropLast))
theorem zSD:MtM X "list.pop" rPop:=by
 intro pins s σ H x vs v us Q I rx rv h
 obtain ⟨l,xs,y,rfl,rfl,hH,hy,q⟩:=h
 cases rx
 have hus:=rv.zero
 subst hus
 obtain ⟨z,its,n,r,hl,e⟩:=I.lstM hH
 obtain ⟨u,hu,ru⟩:=r.get hy
 have hy':its.toArray[its.toArray.size - 1]?=some u:=by
  show its.toArray[its.length - 1]?=some u
  rw [← Array.getElem?_toList,← hl]
  exact hu
 refine call_meets F.slot_list_pop ⟨_,e,rfl⟩ F.entry_list_pop (F.args_list_pop_1 _) (MeetsSeq.list_pop_last l its.toArray n u hy' (by rw [List.size_toArray]; omega)) ⟨e,?_⟩
 refine ⟨y,_,I.lset (its':=its.dropLast) hH e ?_ r.dropLast ?_,ru,q⟩
 ·show its.toArray.eraseIdxIfInBounds (its.toArray.size - 1)=its.dropLast.toArray
  rw [List.size_toArray,List.eraseIdxIfInBounds_toArray,zJ5]
 ·rw [List.length_dropLast]
  omega
noncomputable def zOS:V→List V→Hp→VK→Prop:=fun x vs H Q=>∃ l xs i k y,x=.ref l∧vs=[.int i]∧H l=some (.lst xs)∧-(2 ^ 63)≤i∧i<2 ^ 63∧seqIndex? i xs.length=some k∧xs[k]?=some y∧Q y (upd H l (.lst (xs.eraseIdx k)))
theorem zM8:MtM X "list.pop" zOS:=by
 intro pins s σ H x vs v us Q I rx rv h
 obtain ⟨l,xs,i,k,y,rfl,rfl,hH,h1,h2,hk,hy,q⟩:=h
 cases rx
 obtain ⟨u,rfl,ru⟩:=rv.one
 obtain ⟨t,rfl⟩:=ru
 obtain ⟨z,its,n,r,hl,e⟩:=I.lstM hH
 obtain ⟨w,hw,rw'⟩:=r.get hy
 refine call_meets F.slot_list_pop ⟨_,e,rfl⟩ F.entry_list_pop (F.args_list_pop_2 _ _)
  (MeetsSeq.list_pop_at l its.toArray n i t k w (fitsIndex_both h1 h2) (by rw [List.size_toArray,← hl]; exact hk) (by rw [← Array.getElem?_toList]; exact hw) (by rw [List.size_toArray]; omega)) ⟨e,?_⟩
 refine ⟨y,_,I.lset (its':=its.eraseIdx k) hH e ?_ (r.eraseIdx k) ?_,rw',q⟩
 ·show its.toArray.eraseIdxIfInBounds k=(its.eraseIdx k).toArray
  rw [List.eraseIdxIfInBounds_toArray]
 ·have:=zGV xs k
  omega
noncomputable def rRep:R2:=fun x y H Q=>∃ l k xs,x=.ref l∧y=.int k∧H l=some (.lst xs)∧-(2 ^ 63)≤k∧k<2 ^ 63∧xs.length * k.toNat≤sizeLine ∧
 ∀ p,H p=none→Q (.ref p) (upd H p (.lst (List.replicate k.toNat xs).flatten))
theorem zPV {α:Type} (xs:List α) (k:Nat):(List.replicate k xs).flatten.length=k * xs.length:=by
 induction k with
 | zero=>simp
 | succ k ih=>rw [List.replicate_succ,List.flatten_cons,List.length_append,ih,Nat.succ_mul,Nat.add_comm]
theorem zSE:OpR X (binaryOp .Mult) rRep:=by
 intro pins s σ H x y v u Q I rx ry h
 obtain ⟨l,k,xs,rfl,rfl,hH,h1,h2,hz,q⟩:=h
 cases rx
 obtain ⟨t,rfl⟩:=ry
 obtain ⟨z,its,n,r,hl,e⟩:=I.lstM hH
 have hlen:its.toArray.size * k.toNat≤sizeLine:=by rw [List.size_toArray,← hl]; exact hz
 have hcap:¬ its.toArray.size * k.toNat > (2 ^ 63 - 1) / 8:=by
  have:(sizeLine:Nat)≤(2 ^ 63 - 1) / 8:=by decide
  omega
 have hfit:¬ (!Builtin.List.listFitsIndex k)=true:=by
  rw [fitsIndex_both h1 h2]
  exact Bool.false_ne_true
 have hlong:¬ Builtin.List.listTooLong (its.toArray.size * k.toNat)=true:=by
  rw [zM7 hlen]
  exact Bool.false_ne_true
 have hnew:List.foldl (fun x1 x2=>x1++x2) #[] (List.replicate (if its.toArray.isEmpty=true then 0 else k.toNat) its.toArray)=(List.replicate k.toNat its).flatten.toArray:=by
  have f0:∀ m:Nat,List.foldl (fun x1 x2=>x1++x2) #[] (List.replicate m its.toArray)=(List.replicate m its).flatten.toArray:=fun m=>by
   have:=zGW its m []
   rw [List.nil_append] at this
   exact this
  rw [f0]
  cases its with
  | nil=>simp
  | cons a r'=>rw [if_neg (by simp)]
 refine wpAny_binaryOp_repeat_ref (T:="list") (U:="int") (by decide) ⟨_,e,rfl⟩ (fun s'=>typeIs_int s' k t) noFill_list_mul F.fills_int_mul F.slot_int_rmul repeat_list F.slot_int_index.lookup
  (call_meets F.slot_int_rmul (typeIs_int s k t) F.entry_int_rmul (F.args_int_rmul_2 _ _) (int___rmul___int_list k t l its.toArray n)
   ⟨e,rfl,⟨_,e,rfl⟩,call_meets F.slot_list_mul ⟨_,e,rfl⟩ F.entry_list_mul (F.args_list_mul_2 _ _) (AutoListH.list___mul___list_int_3 l its.toArray n k t hfit hcap hlong) ⟨e,?_⟩⟩)
 rw [hnew]
 exact ⟨.ref _,_,I.lnew (t':=s.toks) (r.rep k.toNat) (by rw [zPV,Nat.mul_comm]; exact hz),rfl,q _ I.fresh⟩
end
section
variable {prog:Program} {w:World} {A:Around} {E:Value→Shared→Prop} {s:Shared}
end
section
variable {X:Cx}
end
end L2
namespace L2
open PySem PySem.Spec PyProof.Rows
section
variable {κ:Type} [DecidableEq κ]
noncomputable def valV (kvs:List (κ × V)) (k:κ):Option V:=(kvs.find? fun kv=>decide (kv.1=k)).map (·.2)
noncomputable def putK (kvs:List (κ × V)) (k:κ) (v:V):List (κ × V) :=
 if (kvs.any fun kv=>decide (kv.1=k))=true then kvs.map (fun kv=>if kv.1=k then (kv.1,v) else kv) else kvs++[(k,v)]
theorem zFZ {p:κ × V} {r:List (κ × V)} {k:κ} (e:p.1=k):valV (p::r) k=some p.2:=by simp [valV,List.find?_cons,e]
theorem zF0 {p:κ × V} {r:List (κ × V)} {k:κ} (e:¬ p.1=k):valV (p::r) k=valV r k:=by simp [valV,List.find?_cons,e]
theorem zI0 (k:κ):∀ kvs:List (κ × V),(kvs.any fun kv=>decide (kv.1=k))=(valV kvs k).isSome
 | []=>rfl
 | p::r=>by
  rw [List.any_cons]
  by_cases e:p.1=k
  ·simp only [zFZ e,decide_eq_true e,Bool.true_or,Option.isSome_some]
  ·rw [zF0 e,decide_eq_false e,Bool.false_or]; exact zI0 k r
theorem zC1 (kvs:List (κ × V)) (k:κ) (v:V):(putK kvs k v).length≤kvs.length+1:=by
 unfold putK
 split
 ·rw [List.length_map]; omega
 ·rw [List.length_append,List.length_cons,List.length_nil]; omega
theorem RelO.isSome_eq {o:Option V} {u:Option Value} (r:RelO o u):o.isSome=u.isSome:=by
 cases o with
 | none=>cases u with
  | none=>rfl
  | some _=>exact (show False from r).elim
 | some _=>cases u with
  | none=>exact (show False from r).elim
  | some _=>rfl
theorem RelO.getD {o:Option V} {u:Option Value} {d:V} {d':Value} (r:RelO o u) (rd:RelV d d'):RelV (o.getD d) (u.getD d'):=by
 cases o with
 | none=>cases u with
  | none=>exact rd
  | some _=>exact (show False from r).elim
 | some _=>cases u with
  | none=>exact (show False from r).elim
  | some _=>exact r
theorem KV.val {kvs:List (κ × V)} {vs:List (κ × Value)} (r:KV kvs vs) (k:κ):RelO (valV kvs k) (valueAt vs k):=by
 unfold KV at r
 induction r with
 | nil=>exact True.intro
 | @cons p q ps qs h t ih =>
  obtain ⟨h1,h2⟩:=h
  by_cases e:p.1=k
  ·have e':q.1=k:=h1.symm.trans e
   have b:valueAt (q::qs) k=some q.2:=by simp [valueAt,List.find?_cons,e']
   rw [zFZ e,b]; exact h2
  ·have e':¬ q.1=k:=fun z=>e (h1.trans z)
   have b:valueAt (q::qs) k=valueAt qs k:=by simp [valueAt,List.find?_cons,e']
   rw [zF0 e,b]; exact ih
theorem KV.any {kvs:List (κ × V)} {vs:List (κ × Value)} (r:KV kvs vs) (k:κ):(kvs.any fun kv=>decide (kv.1=k))=vs.any fun kv=>decide (kv.1=k):=by
 unfold KV at r
 induction r with
 | nil=>rfl
 | cons h t ih=>rw [List.any_cons,List.any_cons,ih,h.1]
theorem KV.repl {kvs:List (κ × V)} {vs:List (κ × Value)} (r:KV kvs vs) (k:κ) {y:V} {u:Value} (ry:RelV y u) :
  KV (kvs.map fun kv=>if kv.1=k then (kv.1,y) else kv) (vs.map fun kv=>if kv.1=k then (kv.1,u) else kv):=by
 unfold KV at r ⊢
 induction r with
 | nil=>exact .nil
 | @cons p q ps qs h t ih =>
  rw [List.map_cons,List.map_cons]
  refine .cons ?_ ih
  obtain ⟨h1,h2⟩:=h
  by_cases e:p.1=k
  ·rw [if_pos e,if_pos (h1.symm.trans e)]; exact ⟨h1,ry⟩
  ·rw [if_neg e,if_neg (fun z=>e (h1.trans z))]; exact ⟨h1,h2⟩
theorem KV.put {kvs:List (κ × V)} {vs:List (κ × Value)} (r:KV kvs vs) (k:κ) {y:V} {u:Value} (ry:RelV y u):KV (putK kvs k y) (stored vs k u):=by
 unfold putK stored
 rw [r.any k]
 by_cases e:(vs.any fun kv=>decide (kv.1=k))=true
 ·rw [if_pos e,if_pos e]; exact r.repl k ry
 ·rw [if_neg e,if_neg e]; exact Paired.snoc r ⟨rfl,ry⟩
theorem KV.keys {kvs:List (κ × V)} {vs:List (κ × Value)} (r:KV kvs vs):kvs.map (·.1)=vs.map (·.1):=by
 unfold KV at r
 induction r with
 | nil=>rfl
 | cons h t ih=>rw [List.map_cons,List.map_cons,ih,h.1]
theorem KV.length {kvs:List (κ × V)} {vs:List (κ × Value)} (r:KV kvs vs):kvs.length=vs.length:=Paired.length r
end
theorem kV_is {P:Program} {w:World} {k:Key} {u:Value} (r:RelV (kV k) u):(zAT P w).is k u=true:=by
 cases k with
 | inl i=>obtain ⟨t,e⟩:=(show ∃ t,u=Value.int i t from r); subst e; exact zHW P w i t
 | inr x=>obtain ⟨t,e⟩:=(show ∃ t,u=Value.str x t from r); subst e; exact zHX P w x t
theorem zGX {P:Program} {w:World}:∀ {ks:List Key} {us:List Value},Vals (ks.map kV) us→ItemsAre (zAT P w) ks us
 | [],_,r=>by rw [List.map_nil] at r; cases r; exact .nil
 | k::ks,_,r=>by
  rw [List.map_cons] at r
  cases r with
  | cons h t=>exact .cons (kV_is h) (zGX t)
noncomputable abbrev KT (H:Hp):List (List Key × V)→List (List Key × Addr × Value)→Prop:=Paired fun p q=>p.1=q.1∧H q.2.1=some (.tup (p.1.map kV))∧RelV p.2 q.2.2
theorem KT.val {H:Hp} {kvs:List (List Key × V)} {xs:List (List Key × Addr × Value)} (r:KT H kvs xs) (k:List Key):RelO (valV kvs k) ((atKey xs k).map (·.2)):=by
 induction r with
 | nil=>exact True.intro
 | @cons p q ps qs h t ih =>
  obtain ⟨h1,_,h2⟩:=h
  by_cases e:p.1=k
  ·have e':q.1=k:=h1.symm.trans e
   have b:atKey (q::qs) k=some q.2:=by simp [atKey,List.find?_cons,e']
   rw [zFZ e,b]; exact h2
  ·have e':¬ q.1=k:=fun z=>e (h1.trans z)
   have b:atKey (q::qs) k=atKey qs k:=by simp [atKey,List.find?_cons,e']
   rw [zF0 e,b]; exact ih
theorem KT.repl {H:Hp} {kvs:List (List Key × V)} {xs:List (List Key × Addr × Value)} (r:KT H kvs xs) (k:List Key) {y:V} {u:Value} (ry:RelV y u) :
  KT H (kvs.map fun kv=>if kv.1=k then (kv.1,y) else kv) (xs.map (putAt k u)):=by
 induction r with
 | nil=>exact .nil
 | @cons p q ps qs h t ih =>
  rw [List.map_cons,List.map_cons]
  refine .cons ?_ ih
  obtain ⟨h1,h2,h3⟩:=h
  unfold putAt
  by_cases e:p.1=k
  ·rw [if_pos e,if_pos (h1.symm.trans e)]; exact ⟨h1,h2,ry⟩
  ·rw [if_neg e,if_neg (fun z=>e (h1.trans z))]; exact ⟨h1,h2,h3⟩
theorem KT.put {H:Hp} {kvs:List (List Key × V)} {xs:List (List Key × Addr × Value)} (r:KT H kvs xs) (k:List Key) {b:Addr} {y:V} {u:Value} (hb:H b=some (.tup (k.map kV))) (ry:RelV y u) :
  KT H (putK kvs k y) (storedH xs k b u):=by
 have e:(kvs.any fun kv=>decide (kv.1=k))=(atKey xs k).isSome:=by
  rw [zI0,(r.val k).isSome_eq,Option.isSome_map]
 unfold putK storedH
 rw [e]
 by_cases q:(atKey xs k).isSome=true
 ·rw [if_pos q,if_pos q]; exact r.repl k ry
 ·rw [if_neg q,if_neg q]; exact Paired.snoc r ⟨rfl,hb,ry⟩
theorem KT.keeps {H H':Hp} {kvs:List (List Key × V)} {xs:List (List Key × Addr × Value)} (r:KT H kvs xs) (ht:∀ b ys,H b=some (.tup ys)→H' b=some (.tup ys)):KT H' kvs xs :=
 Paired.mapP r fun _ _ z=>⟨z.1,ht _ _ z.2.1,z.2.2⟩
section
variable {P:Program} {w:World} {H:Hp} {h:Heap} {a:Addr}
theorem rd_of {u:HO} (ok:HOk P w H h) (e:Rd H a u):ObjOk P w H h a u:=e.ok ok
theorem dk_rd {kvs:List (Key × V)} (ok:HOk P w H h) (e:Rd H a (.dK kvs)):kvs.length≤sizeLine∧(a == sysModules)=false∧∃ vs,KV kvs vs∧h.DictOf (zAT P w) a vs :=
 show ObjOk P w H h a (.dK kvs) from rd_of ok e
theorem dk_of {kvs:List (Key × V)} (ok:HOk P w H h) (e:H a=some (.dK kvs)):kvs.length≤sizeLine∧(a == sysModules)=false∧∃ vs,KV kvs vs∧h.DictOf (zAT P w) a vs:=dk_rd ok (.inl e)
theorem zE4 {ks:List Key} (ok:HOk P w H h) (e:H a=some (.tup (ks.map kV))):(tupleKind (zAT P w)).is h ks a:=by
 obtain ⟨_,its,r,o,h1,h2,_,n,h3⟩:=(show ObjOk P w H h a (.tup (ks.map kV)) from ok a _ e)
 exact ⟨o,its.toArray,n,h1,h2,h3,by simpa using zGX r⟩
theorem dt_rd {kvs:List (List Key × V)} (ok:HOk P w H h) (e:Rd H a (.dT kvs)):kvs.length≤sizeLine∧(a == sysModules)=false ∧
  ∃ xs,KT H kvs xs∧h.DictOfH (tupleKind (zAT P w)) a xs:=by
 obtain ⟨z,y,xs,r,o,es,ep,h1,h2,h3,h4,h5⟩:=(show ObjOk P w H h a (.dT kvs) from rd_of ok e)
 refine ⟨z,y,xs,r,o,es,ep,h1,h2,h3,h4,fun x hx=>?_,h5⟩
 have all:∀ {l:List (List Key × V)} {m:List (List Key × Addr × Value)},KT H l m→∀ x∈m,(tupleKind (zAT P w)).is h x.1 x.2.1:=by
  intro l m q
  induction q with
  | nil=>intro x hx; exact nomatch hx
  | @cons p q ps qs hq t ih =>
   intro x hx
   rcases List.mem_cons.mp hx with e | hx
   ·subst e
    exact zE4 ok (by rw [← hq.1]; exact hq.2.1)
   ·exact ih x hx
 exact all r x hx
theorem dt_of {kvs:List (List Key × V)} (ok:HOk P w H h) (e:H a=some (.dT kvs)):kvs.length≤sizeLine∧(a == sysModules)=false ∧
  ∃ xs,KT H kvs xs∧h.DictOfH (tupleKind (zAT P w)) a xs:=dt_rd ok (.inl e)
end
noncomputable def DGet (H:Hp) (a:Addr) (y:V) (r:Option V):Prop :=
 (∃ kvs k,Rd H a (.dK kvs)∧y=kV k∧r=valV kvs k)∨∃ kvs k b,Rd H a (.dT kvs)∧y=.ref b∧H b=some (.tup (k.map kV))∧r=valV kvs k
noncomputable def DPut (H:Hp) (a:Addr) (y v:V) (H':Hp):Prop :=
 (∃ kvs k,H a=some (.dK kvs)∧y=kV k∧kvs.length<sizeLine∧H'=upd H a (.dK (putK kvs k v))) ∨
 ∃ kvs k b,H a=some (.dT kvs)∧y=.ref b∧H b=some (.tup (k.map kV))∧kvs.length<sizeLine∧H'=upd H a (.dT (putK kvs k v))
theorem DPut.k {H:Hp} {a:Addr} {kvs:List (Key × V)} {k:Key} {v:V} (e:H a=some (.dK kvs)) (hl:kvs.length<sizeLine):DPut H a (kV k) v (upd H a (.dK (putK kvs k v))):=.inl ⟨kvs,k,e,rfl,hl,rfl⟩
theorem DPut.t {H:Hp} {a b:Addr} {kvs:List (List Key × V)} {k:List Key} {v:V} (e:H a=some (.dT kvs)) (eb:H b=some (.tup (k.map kV))) (hl:kvs.length<sizeLine) :
  DPut H a (.ref b) v (upd H a (.dT (putK kvs k v))):=.inr ⟨kvs,k,b,e,rfl,eb,hl,rfl⟩
section
variable {X:Cx} {pins:List (Addr × Obj)} {σ:St} {H:Hp} {s:Shared} {a:Addr} {y v:V} {u r:Value} {o:Option V} {A:Around} {E:Value→Shared→Prop}
theorem Inv.big (I:Inv X pins σ H s):sysModules<s.heap.objs.size:=by
 have h:mainGlobals<s.heap.objs.size:=(I.mod.glob.keeps I.bk).lt
 exact Nat.lt_trans (by decide) h
theorem zK8 {Q:Value→Shared→Prop} (hu:A.units+1<cLine) (I:Inv X pins σ H s) (g:DGet H a y (some v)) (ry:RelV y u) (h:∀ w' s',Inv X pins σ H s'→RelV v w'→Q w' s') :
  wpAny (model X.prog X.w) A (getItem (.ref a) u) Q E s:=by
 rcases g with ⟨kvs,k,e,ey,l⟩ | ⟨kvs,k,b,e,ey,eb,l⟩
 ·subst ey
  obtain ⟨z,hd,vs,rel,dd⟩:=dk_rd I.hok e
  obtain ⟨w',hw,rw'⟩:=RelO.some_of (v:=v) (o:=valueAt vs k) (by rw [l]; exact rel.val k)
  exact wpAny_getItem_of (kV_is ry) dd.mapOf hw (h w' _ (I.tok _) rw')
 ·subst ey
  cases (show u=Value.ref b from ry)
  obtain ⟨z,hd,xs,rel,dd⟩:=dt_rd I.hok e
  obtain ⟨w',hw,rw'⟩:=RelO.some_of (v:=v) (o:=(atKey xs k).map (·.2)) (by rw [l]; exact rel.val k)
  obtain ⟨p,hp,hp2⟩:=Option.map_eq_some_iff.mp hw
  refine wpAny_getItem_heap (tupleKind_room_in1 hu) (zE4 I.hok eb) dd hp ?_
  rw [hp2]
  exact h w' _ (I.tok _) rw'
theorem d_in {Q:Value→Shared→Prop} (hu:A.units+1<cLine) (I:Inv X pins σ H s) (g:DGet H a y o) (ry:RelV y u) (h:∀ s',Inv X pins σ H s'→Q (.bool o.isSome) s') :
  wpAny (model X.prog X.w) A (compareOp .In u (.ref a)) Q E s:=by
 rcases g with ⟨kvs,k,e,ey,l⟩ | ⟨kvs,k,b,e,ey,eb,l⟩
 ·subst ey
  obtain ⟨z,hd,vs,rel,dd⟩:=dk_rd I.hok e
  refine wpAny_in_of (kV_is ry) hd dd.mapOf ?_
  rw [← (rel.val k).isSome_eq,← l]
  exact h _ (I.tok _)
 ·subst ey
  cases (show u=Value.ref b from ry)
  obtain ⟨z,hd,xs,rel,dd⟩:=dt_rd I.hok e
  refine wpAny_in_heap (tupleKind_room_in1 hu) (zE4 I.hok eb) hd dd ?_
  have q:=(rel.val k).isSome_eq
  rw [Option.isSome_map] at q
  rw [← q,← l]
  exact h _ (I.tok _)
theorem zPW {Q:Value→Shared→Prop} (hu:A.units+1<cLine) (I:Inv X pins σ H s) (g:DGet H a y o) (ry:RelV y u) (h:∀ s',Inv X pins σ H s'→Q (.bool (!o.isSome)) s') :
  wpAny (model X.prog X.w) A (compareOp .NotIn u (.ref a)) Q E s:=by
 rcases g with ⟨kvs,k,e,ey,l⟩ | ⟨kvs,k,b,e,ey,eb,l⟩
 ·subst ey
  obtain ⟨z,hd,vs,rel,dd⟩:=dk_rd I.hok e
  refine wpAny_notIn_of (kV_is ry) hd dd.mapOf ?_
  rw [← (rel.val k).isSome_eq,← l]
  exact h _ (I.tok _)
 ·subst ey
  cases (show u=Value.ref b from ry)
  obtain ⟨z,hd,xs,rel,dd⟩:=dt_rd I.hok e
  refine wpAny_notIn_heap (tupleKind_room_in1 hu) (zE4 I.hok eb) hd dd ?_
  have q:=(rel.val k).isSome_eq
  rw [Option.isSome_map] at q
  rw [← q,← l]
  exact h _ (I.tok _)
theorem zH0 {h':Heap} {t':Nat} {ob:HO} (I:Inv X pins σ H s) (mu:Mut (H a)) (hs:Heap.SameBut a s.heap h') (he:∃ q,h'.get? a=some q) (new:ObjOk X.prog X.w (upd H a ob) h' a ob) :
  Inv X pins σ (upd H a ob) { s with heap:=h',toks:=t' } :=
 I.write (x:=a) (e:=a) mu (.inl rfl) (fun b q hb z=>(hs.2 b hb).trans z) he new
theorem zOT {P:Program} {w:World} {H':Hp} {h':Heap} {kvs:List (Key × V)} {vs:List (Key × Value)} (z:kvs.length≤sizeLine) (hd:(a == sysModules)=false) (rel:KV kvs vs) (dd:h'.DictOf (zAT P w) a vs) :
  ObjOk P w H' h' a (.dK kvs):=⟨z,hd,vs,rel,dd⟩
theorem zK9 {H':Hp} {Q:Unit→Shared→Prop} (hu:A.units+1<cLine) (I:Inv X pins σ H s) (g:DPut H a y v H') (ry:RelV y u) (rv:RelV v r) (h:∀ s',Inv X pins σ H' s'→Q () s') :
  wpAny (model X.prog X.w) A (setItem (.ref a) u r) Q E s:=by
 rcases g with ⟨kvs,k,e,ey,l,eH⟩ | ⟨kvs,k,b,e,ey,eb,l,eH⟩
 ·subst ey eH
  obtain ⟨z,hd,vs,rel,dd⟩:=dk_of I.hok e
  have hz:vs.length≤sizeLine:=by rw [← rel.length]; exact z
  have hl:(putK kvs k v).length≤sizeLine:=by have:=zC1 kvs k v; omega
  refine wpAny_setItem_pairs (hsz:=hz) (kV_is ry) dd fun h' dd' hs=>h _ ?_
  have he:∃ q,h'.get? a=some q:=let ⟨q,_,_,hq,_⟩:=dd'; ⟨q,hq⟩
  exact zH0 I (by rw [e]; exact True.intro) hs he (zOT hl hd (rel.put k rv) dd')
 ·subst ey eH
  cases (show u=Value.ref b from ry)
  obtain ⟨z,hd,xs,rel,dd⟩:=dt_of I.hok e
  have hz:xs.length≤sizeLine:=by rw [← Paired.length rel]; exact z
  have hl:(putK kvs k v).length≤sizeLine:=by have:=zC1 kvs k v; omega
  refine wpAny_setItem_heap (hsz:=hz) (tupleKind_room_in1 hu) (zE4 I.hok eb) dd fun h' dd' hs=>h _ ?_
  obtain ⟨q,es,ep,hq,h2,h3,h4,_,h5⟩:=dd'
  refine zH0 I (by rw [e]; exact True.intro) hs ⟨q,hq⟩ ⟨hl,hd,_,(rel.put k eb rv).keeps fun c ys ec=>?_,q,es,ep,hq,h2,h3,h4,h5⟩
  rw [zAF (ne_of ec e (fun z=>nomatch z))]
  exact ec
end
section
variable {X:Cx} {pins:List (Addr × Obj)} {σ:St} {H:Hp} {s:Shared} {a:Addr} {kvs:List (Key × V)} {k:Key} {u:Value} {A:Around} {E:Value→Shared→Prop}
theorem d_len {Q:Value→Shared→Prop} (I:Inv X pins σ H s) (e:Rd H a (.dK kvs)) (h:∀ t s',Inv X pins σ H s'→Q (.int kvs.length t) s'):wpAny (model X.prog X.w) A (call (.builtin "len") [.ref a]) Q E s:=by
 obtain ⟨z,hd,vs,rel,dd⟩:=dk_rd I.hok e
 refine call_len_dict hd dd (by rw [← rel.length]; rw [sizeLine_eq] at z; omega) ?_
 rw [← rel.length]
 exact h _ _ (I.tok _)
end
theorem zH6 {X:Cx} {pins:List (Addr × Obj)} {σ:St} {H:Hp} {s:Shared} {a:Addr} {y:V} {o:Option V} (I:Inv X pins σ H s) (g:DGet H a y o):s.TypeIs (.ref a) "dict":=by
 rcases g with ⟨kvs,k,e,_,_⟩ | ⟨kvs,k,b,e,_,_,_⟩
 ·obtain ⟨_,_,vs,_,dd⟩:=dk_rd I.hok e
  exact dd.typeIs
 ·obtain ⟨_,_,xs,_,dd⟩:=dt_rd I.hok e
  exact dd.typeIs
noncomputable def sDPut (td ty tv:TE):TS:=fun D σ H=>tv σ H fun v H1=>td σ H1 fun x H2=>ty σ H2 fun y H3=>∃ a H4,x=.ref a∧DPut H3 a y v H4∧D.nx σ H4
section
variable {X:Cx} {o i e value:Expr} {pos pos' tpos:Pos} {td ty tv:TE}
theorem zLA (hu:X.A.units+1<cLine) (ho:PE X o td) (hi:PE X i ty) (hv:PE X value tv) (hs:swapsWith value (some (.Subscript o i pos')) pos.line X.env=pure false) :
  PS X (.Assign [.Subscript o i pos'] value pos) (sDPut td ty tv):=by
 intro pins s σ H D I h
 refine wpAny_Assign_Subscript (thn (hv pins s σ H _ I h) fun r s1 ⟨v,H1,I1,rv,q1⟩=>thn (ho pins s1 σ H1 _ I1 q1) fun u s2 ⟨x,H2,I2,rx,q2⟩=>thn (hi pins s2 σ H2 _ I2 q2) fun iv s3 ⟨y,H3,I3,ry,a,H4,ex,g,q3⟩=>?_) hs
 subst ex
 obtain rfl:u=Value.ref a:=rx
 exact zK9 hu I3 g ry rv fun s4 I4=>⟨σ,H4,I4,q3⟩
end
theorem zI1 {P:Program} {w:World} {H:Hp} (h:Heap) (hb:sysModules<h.objs.size):ObjOk P w H (h.push { cls:=.type "dict",data:=.dict #[] }) h.objs.size (.dK []) :=
 ⟨Nat.zero_le _,beq_eq_false_iff_ne.mpr (Ne.symm (Nat.ne_of_lt hb)),[],.nil,Heap.DictOf.new h⟩
theorem zM9 {P:Program} {w:World} {H:Hp} (h:Heap) (hb:sysModules<h.objs.size):ObjOk P w H (h.push { cls:=.type "dict",data:=.dict #[] }) h.objs.size (.dT []) :=
 ⟨Nat.zero_le _,beq_eq_false_iff_ne.mpr (Ne.symm (Nat.ne_of_lt hb)),[],.nil,_,#[],0,Heap.get?_push_size _ rfl,⟨rfl,rfl,rfl⟩,rfl,rfl,List.nodup_nil⟩
noncomputable def zSF:TE:=fun _ H Q=>∀ p,H p=none→Q (.ref p) (upd H p (.dK []))
noncomputable def zSG:TE:=fun _ H Q=>∀ p,H p=none→Q (.ref p) (upd H p (.dT []))
section
variable {X:Cx} {pos:Pos}
theorem pe_dnewK:PE X (.Dict [] [] pos) zSF:=fun pins s σ H Q I h =>
 wpAny_Dict_empty ⟨.ref s.heap.objs.size,_,I.laid (a:=s.heap.objs.size) (o:=.dK []) (t':=s.toks) (fun _ _ q=>Heap.get?_push_of_some _ q) (Nat.le_refl _) (zI1 s.heap I.big),rfl,h _ (I.hok.fresh (Nat.le_refl _))⟩
theorem pe_dnewT:PE X (.Dict [] [] pos) zSG:=fun pins s σ H Q I h =>
 wpAny_Dict_empty ⟨.ref s.heap.objs.size,_,I.laid (a:=s.heap.objs.size) (o:=.dT []) (t':=s.toks) (fun _ _ q=>Heap.get?_push_of_some _ q) (Nat.le_refl _) (zM9 s.heap I.big),rfl,h _ (I.hok.fresh (Nat.le_refl _))⟩
end
noncomputable def zLB:List (TE × TE)→St→Hp→(List (V × V)→Hp→Prop)→Prop
 | [],_,H,Q=>Q [] H
 | (tk,tv)::r,σ,H,Q=>tk σ H fun x H1=>tv σ H1 fun y H2=>zLB r σ H2 fun ps H3=>Q ((x,y)::ps) H3
noncomputable abbrev VV:List (V × V)→List (Value × Value)→Prop:=Paired fun p q=>RelV p.1 q.1∧RelV p.2 q.2
noncomputable def PPs (X:Cx) (pos:Pos) (keys:List (Option Expr)) (values:List Expr) (trs:List (TE × TE)):Prop :=
 ∀ (pins:List (Addr × Obj)) (s:Shared) (σ:St) (H:Hp) (Q:List (V × V)→Hp→Prop),Inv X pins σ H s→zLB trs σ H Q →
  wpAny (model X.prog X.w) X.A (evalPairs (pairTrees keys values X.env pos)) (fun vs s'=>∃ ps H',Inv X pins σ H' s'∧VV ps vs∧Q ps H') X.xe s
theorem zPX {X:Cx} {pos:Pos}:PPs X pos [] [] []:=fun pins s σ H Q I h=>pairTrees_nil_walk ⟨[],H,I,.nil,h⟩
theorem zNA {X:Cx} {pos:Pos} {k v:Expr} {ks:List (Option Expr)} {vs:List Expr} {tk tv:TE} {trs:List (TE × TE)} (hk:PE X k tk) (hv:PE X v tv) (hr:PPs X pos ks vs trs) :
  PPs X pos (some k::ks) (v::vs) ((tk,tv)::trs):=fun pins s σ H Q I h =>
 pairTrees_cons_walk (thn (hk pins s σ H _ I h) fun u s1 ⟨x,H1,I1,rx,q1⟩=>thn (hv pins s1 σ H1 _ I1 q1) fun w2 s2 ⟨y,H2,I2,ry,q2⟩ =>
  thn (hr pins s2 σ H2 _ I2 q2) fun ws s3 ⟨ps,H3,I3,rel,q3⟩=>⟨(x,y)::ps,H3,I3,.cons ⟨rx,ry⟩ rel,q3⟩)
noncomputable def zGY (kvs more:List (Key × V)):List (Key × V):=more.foldl (fun acc kv=>putK acc kv.1 kv.2) kvs
theorem KV.merge:∀ {more:List (Key × V)} {rs:List (Key × Value)} {kvs:List (Key × V)} {vs:List (Key × Value)},KV more rs→KV kvs vs→KV (zGY kvs more) (merged vs rs):=by
 intro more rs kvs vs r
 unfold KV at r
 induction r generalizing kvs vs with
 | nil=>intro q; exact q
 | @cons p q ps qs h t ih =>
  intro r0
  have e:KV (putK kvs p.1 p.2) (stored vs q.1 q.2):=by
   have:=r0.put p.1 h.2
   rw [← h.1]; exact this
  exact ih e
theorem zC9:∀ (more kvs:List (Key × V)),(zGY kvs more).length≤kvs.length+more.length
 | [],kvs=>by show kvs.length≤kvs.length+0; omega
 | p::r,kvs=>by
  have h1:=zC9 r (putK kvs p.1 p.2)
  have h2:=zC1 kvs p.1 p.2
  show (zGY (putK kvs p.1 p.2) r).length≤_
  rw [List.length_cons]; omega
theorem zE5 {P:Program} {w:World}:∀ {kvs:List (Key × V)} {ws:List (Value × Value)},VV (kvs.map fun kv=>(kV kv.1,kv.2)) ws→∃ rs,Carries (zAT P w) ws rs∧KV kvs rs
 | [],_,r=>by rw [List.map_nil] at r; cases r; exact ⟨[],True.intro,.nil⟩
 | p::kvs,_,r=>by
  rw [List.map_cons] at r
  cases r with
  | @cons a b as bs h t =>
   obtain ⟨rs,c,q⟩:=zE5 (P:=P) (w:=w) t
   obtain ⟨b1,b2⟩:=b
   exact ⟨(p.1,b2)::rs,⟨kV_is h.1,rfl,c⟩,.cons ⟨rfl,h.2⟩ q⟩
noncomputable def tDisp (trs:List (TE × TE)):TE:=fun σ H Q=>∀ p,H p=none→zLB trs σ (upd H p (.dK [])) fun ps H2=>H2 p=some (.dK [])∧∃ kvs:List (Key × V),ps=kvs.map (fun kv=>(kV kv.1,kv.2))∧kvs.length≤15∧Q (.ref p) (upd H2 p (.dK (zGY [] kvs)))
theorem zPY {X:Cx} {pos:Pos} {keys:List (Option Expr)} {values:List Expr} {trs:List (TE × TE)} (h:PPs X pos keys values trs) (hall:keys.all (·.isSome)=true) (hl:keys.length=values.length) (h0:keys≠[])
  (h15:keys.length≤15):PE X (.Dict keys values pos) (tDisp trs):=by
 intro pins s σ H Q I q
 have hn:=I.hok.fresh (Nat.le_refl s.heap.objs.size)
 have I1:=I.laid (a:=s.heap.objs.size) (o:=.dK []) (h':=s.heap.push { cls:=.type "dict",data:=.dict #[] }) (t':=s.toks) (fun _ _ q=>Heap.get?_push_of_some _ q) (Nat.le_refl _) (zI1 s.heap I.big)
 refine wpAny_Dict_walk (knd:=zAT X.prog X.w) hall hl h0 h15 (thn (h pins _ σ _ _ I1 (q _ hn)) fun ws s2 ⟨ps,H2,I2,rel,e,kvs,ep,lk,q2⟩=>?_)
 subst ep
 obtain ⟨rs,c,rk⟩:=zE5 (P:=X.prog) (w:=X.w) rel
 obtain ⟨z,hd,vs0,r0,dd⟩:=dk_of I2.hok e
 cases r0
 refine ⟨rs,c,dd,fun h' dd' hs=>⟨.ref s.heap.objs.size,_,?_,rfl,q2⟩⟩
 have hz:(zGY [] kvs).length≤sizeLine:=by
  have h1:=zC9 kvs []
  rw [List.length_nil] at h1
  rw [sizeLine_eq]; omega
 have he:∃ q,h'.get? s.heap.objs.size=some q:=let ⟨q,_,_,hq,_⟩:=dd'; ⟨q,hq⟩
 exact zH0 I2 (by rw [e]; exact True.intro) hs he (zOT hz hd (rk.merge .nil) dd')
structure M2 (X:Cx) (o:Expr) (m:Str) (apos:Pos) (e f:Expr) (cpos:Pos):Prop where
 base:attributeBase o m X.env (eval o X.env)=eval o X.env
 few:((backTo cpos (starEach [e,f] X.env)).all (fun x=>!x.1) && (backToKw cpos (keywordEach [] X.env)).all (fun x=>x.1.isSome)
  && decide (([e,f]:List Expr).length+([]:List Keyword).length+(if ([]:List Keyword).isEmpty then 0 else 1)<30))=true
 line:(apos.endLine == cpos.line)=true
 trees:backTo cpos (starEach [e,f] X.env)=[(false,eval e X.env),(false,eval f X.env)]
noncomputable def IsD (H:Hp) (a:Addr):Prop:=(∃ kvs,Rd H a (.dK kvs))∨∃ kvs,Rd H a (.dT kvs)
theorem zSH {X:Cx} {pins:List (Addr × Obj)} {σ:St} {H:Hp} {s:Shared} {a:Addr} (I:Inv X pins σ H s) (d:IsD H a) :
  s.TypeIs (.ref a) "dict"∧(∀ b,Value.ref a=.ref b→∃ ob,s.heap.get? b=some ob∧ob.dict=none)∧(a == sysModules)=false:=by
 rcases d with ⟨kvs,e⟩ | ⟨kvs,e⟩
 ·obtain ⟨_,hd,vs,_,dd⟩:=dk_rd I.hok e
  refine ⟨dd.typeIs,fun b q=>?_,hd⟩
  cases q
  obtain ⟨ob,_,_,h1,h2,_⟩:=dd
  exact ⟨ob,h1,h2.2.1⟩
 ·obtain ⟨_,hd,xs,_,dd⟩:=dt_rd I.hok e
  refine ⟨dd.typeIs,fun b q=>?_,hd⟩
  cases q
  obtain ⟨ob,_,_,h1,h2,_⟩:=dd
  exact ⟨ob,h1,h2.2.1⟩
section
variable {X:Cx} {pins:List (Addr × Obj)} {σ:St} {H:Hp} {s:Shared} {a:Addr} {y d:V} {u r:Value} {o:Option V} {A:Around} {E:Value→Shared→Prop}
theorem zSI {Q:Value→Shared→Prop} (hu:A.units+1<cLine) (I:Inv X pins σ H s) (g:DGet H a y o) (ry:RelV y u) (rd:RelV d r) (h:∀ w' s',Inv X pins σ H s'→RelV (o.getD d) w'→Q w' s') :
  wpAny (model X.prog X.w) A (call (.builtin "dict.get") [.ref a,u,r]) Q E s:=by
 rcases g with ⟨kvs,k,e,ey,l⟩ | ⟨kvs,k,b,e,ey,eb,l⟩
 ·subst ey
  obtain ⟨z,hd,vs,rel,dd⟩:=dk_rd I.hok e
  refine call_meetsIn PySem.F.slot_dict_get dd.typeIs PySem.F.entry_dict_get (PySem.F.args_dict_get_3 _ _ _) (meets_dict_get_default (zAT X.prog X.w) a (kV_is ry) hd r) ⟨_,dd.mapOf,h _ _ (I.tok _) ?_⟩
  rw [l]
  exact (rel.val k).getD rd
 ·subst ey
  cases (show u=Value.ref b from ry)
  obtain ⟨z,hd,xs,rel,dd⟩:=dt_rd I.hok e
  refine call_meetsIn PySem.F.slot_dict_get dd.typeIs PySem.F.entry_dict_get (PySem.F.args_dict_get_3 _ _ _) (meetsH_dict_get_default (tupleKind (zAT X.prog X.w)) a b hd r) ⟨tupleKind_room_in1 hu,k,xs,zE4 I.hok eb,dd,h _ _ (I.tok _) ?_⟩
  rw [l]
  exact (rel.val k).getD rd
end
noncomputable def zSJ (td ty tx:TE):TE:=fun σ H Q=>td σ H fun x H1=>∃ a,x=.ref a∧IsD H1 a∧ty σ H1 fun y H2=>tx σ H2 fun z H3=>∃ o,DGet H3 a y o∧Q (o.getD z) H3
section
variable {X:Cx} {o e f:Expr} {apos cpos:Pos} {td ty tx:TE}
theorem zNB (hu:X.A.units+1<cLine) (ho:PE X o td) (he:PE X e ty) (hf:PE X f tx) (m:M2 X o "get" apos e f cpos):PE X (.Call (.Attribute o "get" apos) [e,f] [] cpos) (zSJ td ty tx):=by
 intro pins s σ H Q I h
 refine wpAny_Call_method m.base m.few m.line PySem.F.plainAttrs_dict PySem.F.slot_dict_get PySem.F.type_dict_get (thn (ho pins s σ H _ I h) fun u s1 ⟨x,H1,I1,rx,a,ex,d,q1⟩=>?_)
 subst ex
 obtain rfl:u=Value.ref a:=rx
 obtain ⟨t1,t2,_⟩:=zSH I1 d
 refine ⟨t1,t2,?_⟩
 rw [m.trees]
 refine Calls.callWith_builtin rfl (Calls.evalArgs_plain (Calls.spliced_cons (thn (he pins s1 σ H1 _ I1 q1) fun iv s2 ⟨y,H2,I2,ry,q2⟩ =>
  Calls.spliced_cons (thn (hf pins s2 σ H2 _ I2 q2) fun fv s3 ⟨z,H3,I3,rz,ov,g,q3⟩=>Calls.spliced_nil ?_))))
 exact zSI hu I3 g ry rz fun w' s4 I4 rw'=>⟨_,H3,I4,rw',q3⟩
end
section
variable {X:Cx} {pins:List (Addr × Obj)} {σ:St} {H:Hp} {s:Shared} {a:Addr} {kvs:List (Key × V)} {A:Around} {E:Value→Shared→Prop}
end
section
variable {X:Cx} {pins:List (Addr × Obj)} {σ:St} {H:Hp} {s:Shared} {a:Addr} {y:V} {u:Value} {A:Around} {E:Value→Shared→Prop}
end
end L2
namespace Att
open PySem PySem.W PySem.Calls PyProof.Rows
theorem zD9 {P:Params} {h:Heap}:∀ (ns:List Int) (vs:List Value),WellAll P h vs (ns.map WData.int)→IntsAre vs ns:=by
 intro ns
 induction ns with
 | nil =>
  intro vs w
  rw [List.map_nil] at w
  cases w
  exact .nil
 | cons n ns ih =>
  intro vs w
  rw [List.map_cons] at w
  cases w with
  | cons a b =>
   cases a
   exact .cons _ _ (ih _ b)
theorem zLC {l:OpenLaw} {n:Nat} (hn:l.most=some n) {P:Params} {h:Heap} {args:List WData} {vals:List Value}
  (hpre:l.row.toRowW.claim.pre args=true) (hwl:WellAll P h vals args) :
  ∃ a vs ns,vals=[Value.ref a]∧args=[WData.list (ns.map WData.int)]∧h.get? a=some { cls:=.type "list",data:=.seq vs.toArray }∧IntsAre vs ns∧ns.length≤n:=by
 have hsh:WShape.hasAll [] args [.list .int]=true:=(pre_splitW hpre).1
 have hc:l.pre.holds [] { args:=args }=true:=(pre_splitW hpre).2
 obtain ⟨d,r,rfl,h1,h2⟩:=hasAllW_cons hsh
 obtain rfl:=hasAllW_nil h2
 obtain ⟨xs,rfl,h3⟩:=hasW_list h1
 obtain ⟨ns,rfl⟩:=items_int h3
 have hlen:ns.length≤n:=by
  unfold OpenLaw.pre at hc
  have h4:(WTm.not (.lt (.lit (.int (n:Int))) (.len (.arg 0)))).holds [] { args:=[.list (ns.map .int)] }=true:=by
   have h4:=(holds_andW hc).1
   rw [hn] at h4
   exact h4
  have h5:=condW_of h4 (w_not (w_lt w_lit (w_len_list (w_arg rfl))))
  rw [List.length_map] at h5
  refine Nat.le_of_not_lt fun q=>?_
  have q':(n:Int)<((ns.length:Nat):Int):=by omega
  first
   | (rw [decide_eq_true q'] at h5; exact absurd h5 (by decide))
   | (simp at h5; omega)
 cases hwl with
 | cons w1 w2 =>
  cases w2
  cases w1 with
  | list ho hall=>exact ⟨_,_,ns,rfl,rfl,ho,zD9 ns _ hall,hlen⟩
theorem zLD (l:OpenLaw) (args:List WData):l.row.toRowW.claim.post args (.bool true) args=true :=
 postW_of (r:=l.row.toRowW) (X:=(true == true))
  (show WShape.has [] (.bool true) .bool=true by first | rfl | decide | simp [WShape.has,WShape.arms,WShape.armsAll])
  (show (WTm.eq .res (.lit (.bool true))).value [] { args:=args,res:=some (.bool true),after:=args }=some (.bool (true == true)) from w_eq_bool (w_res rfl) w_lit) rfl
theorem attach_call {l:OpenLaw} {n:Nat} {q:Program} {loose:List Str} {XP:(Str→Option Value)→Heap→Prop} {YP:World→Heap→Prop} {d:DefRec}
  (hn:l.most=some n) (hdf:d.params.defaults=[])
  (call:∀ (w:World) (s₀ s₁:Shared) (mg mb:Str→Option Value) (fa:Addr) (o:Obj) (pm cd doc:Value) (a:Addr) (vs:List Value) (ns:List Int),
   Ground q loose [] XP w s₀ mg mb s₁.heap→YP w s₁.heap →
   s₁.heap.get? fa=some o→o.data=.func (docDef d.name d.params d.body d.scope pm cd doc)→s₁.heap.CodeRec cd d.name→mg d.name=some (.ref fa) →
   s₁.heap.get? a=some { cls:=.type "list",data:=.seq vs.toArray }→IntsAre vs ns→ns.length≤n→s₁.gens=#[] →
   codeAny (model l.prog w) callerA (.call (.ref fa) ⟨[.ref a],[]⟩) (fun r s'=>r=.ok (.ret (.bool true))∧OldK s₁.heap s'.heap∧s'.os=s₁.os∧AllBare s'.gens) s₁) :
  WalkO q loose XP YP l.row.toRowW d [] (fun f vs=>PySem.call f vs):=by
 intro w s₀ s₁ mg mb G Y fa o pm cd doc dV kV ho hd hcd hD hmg hg args vals as hpre hlay hrd hwl hlo
 obtain rfl:dV=.none:=Dflts.none hD hdf
 obtain rfl:kV=.none:=Dflts.noKw hD
 obtain ⟨a,vs,ns,rfl,rfl,hobj,hints,hlen⟩:=zLC hn hpre hwl
 refine enter_call (codeAny_mono (call w s₀ s₁ mg mb fa o pm cd doc a vs ns G Y ho (fd_plain hd) hcd hmg hobj hints hlen hg) fun r s' hq=>?_)
 obtain ⟨rfl,h2,h3,h4⟩:=hq
 exact ⟨.inl ⟨.bool true,.bool true,[],rfl,fun _=>rfl,.bool true,zLD l _,fun _=>⟨List.Pairwise.nil,fun _ hm=>(nomatch hm)⟩⟩,h2,h3,h4⟩
section
variable {prog:Program} {w:World} {A:Around} {E:Value→Shared→Prop} {s:Shared} {K:Frag}
noncomputable def zTK (h:Heap) (L d:Addr):List (Addr × Obj):=(List.range h.objs.size).filterMap fun a=>if a=L∨a=d then none else (h.get? a).map fun o=>(a,o)
end
end Att
namespace L2
open PySem PySem.Spec PyProof.Rows
theorem zGZ:∀ {vs:List Value} {ns:List Int},IntsAre vs ns→Vals (ns.map V.int) vs
 | _,_,.nil=>.nil
 | _,_,.cons n t h=>.cons ⟨t,rfl⟩ (zGZ h)
noncomputable def Only (H:Hp):Prop:=∀ b,H b=none∨∃ o xs,H b=some (.frz o (.lst xs))
theorem zNC {P:Program} {w:World} {K:PySem.W.Frag} {mg mb:Str→Option Value} {CX:CXT} {k:Nat} {fa a:Addr} {fd:FuncData} {x:Str} {sp:Sp} {s₁:Shared} {vs:List Value} {ns:List Int}
  (KX:K.In s₁.heap) (hns:s₁.heap.Ns mainGlobals mg) (hb:s₁.heap.Ns builtinsNs mb) (hbb:∀ x:Str,x≠"__name__"→mb x=bootBuiltins x) (hlim:s₁.heap.NoLimit) (hg:s₁.gens=#[])
  (ha:s₁.heap.get? a=some { cls:=.type "list",data:=.seq vs.toArray }) (hi:IntsAre vs ns) (hl:ns.length≤sizeLine) (hr:Room k callerA)
  (F:∀ base:Heap,K.In base→base.Ns mainGlobals mg→FnOk P w K mg base CX k fa fd [x] sp) (hbind:∀ (s:Shared) (u:Value),BindsTo s fd ⟨[u],[]⟩ [(x,u)])
  (hsp:∀ H:Hp,Only H→SqL K H a (ns.map V.int)→sp [.ref a] H (fun v _=>v=.bl true) fun _ _ _=>False)
  (hCX:∀ H e s',CX [] H s₁ (fun _ _ _=>False) e s'→False) :
  codeAny (model P w) callerA (.call (.ref fa) ⟨[.ref a],[]⟩) (fun r s'=>r=.ok (.ret (.bool true))∧OldK s₁.heap s'.heap∧s'.os=s₁.os∧AllBare s'.gens) s₁:=by
 have rv:=zGZ hi
 have lenV:=hi.length
 -- from an abstract heap in which nothing but the script may be tracked
 have core:∀ H:Hp,Only H→SqL K H a (ns.map V.int)→HOk P w H s₁.heap→(∀ b,H b≠none→b=a)→(H a≠none→K.lookup a=none) →
   codeAny (model P w) callerA (.call (.ref fa) ⟨[.ref a],[]⟩) (fun r s'=>r=.ok (.ret (.bool true))∧OldK s₁.heap s'.heap∧s'.os=s₁.os∧AllBare s'.gens) s₁:=by
  intro H hO hS hok hA hK
  have base_of:∀ {b:Addr} {o:Obj},s₁.heap.get? b=some o→H b=none→(hidT s₁.heap H).get? b=some o:=fun e n=>zMW e n
  have noA:∀ {b:Addr} {o:Obj} {es:Array DictEntry} {ep:Nat},s₁.heap.get? b=some o→o.data=.dict es ep→H b=none:=fun {b o es ep} e d=>by
   cases q:H b with
   | none=>rfl
   | some u =>
    have e':b=a:=hA b (by rw [q]; simp)
    subst e'
    rw [ha] at e; cases e
    have d':Data.seq vs.toArray _=Data.dict es ep:=d
    cases d'
  have nsK:∀ {b:Addr} {m:Str→Option Value},s₁.heap.Ns b m→(hidT s₁.heap H).Ns b m:=fun {b m} ⟨o,es,ep,e,d,r⟩=>⟨o,es,ep,base_of e (noA e d),d,r⟩
  have hKb:K.In (hidT s₁.heap H):=fun b o e=>base_of (KX b o e) (by
   cases q:H b with
   | none=>rfl
   | some u =>
    have e':b=a:=hA b (by rw [q]; simp)
    subst e'
    rw [hK (by rw [q]; simp)] at e; cases e)
  have hM:Mod K mg (hidT s₁.heap H):=⟨hKb,nsK hns,⟨mb,nsK hb,hbb⟩,let ⟨mc,h1,h2⟩:=hlim; ⟨mc,nsK h1,h2⟩⟩
  have e0:Env0 P w K mg (hidT s₁.heap H) callerA [] s₁ H:=⟨rfl,hM,fun b o e=>zPG e,Nat.le_of_eq (zKN _ _),trivial,fun b hb=>absurd (show b∈([]:List Addr) from hb) (by simp),hok,.of_eq hg⟩
  refine codeAny_mono ((F _ hKb (nsK hns)).run callerA [] s₁ H ⟨[.ref a],[]⟩ [.ref a] [.ref a] _ _ hr e0 (hbind s₁ (.ref a)) (.cons rfl .nil) (hsp H hO hS)) fun r s' h=>?_
  cases r with
  | error e=>exact (hCX H e s' h).elim
  | ok fl =>
   cases fl with
   | next=>exact False.elim h
   | brk=>exact False.elim h
   | cont=>exact False.elim h
   | ret u =>
    obtain ⟨v,H',os,bare,un,hok',r',q⟩:=h
    have q':v=.bl true:=q
    subst q'
    obtain rfl:u=Value.bool true:=r'
    refine ⟨rfl,OldK.of_keep fun b o e=>?_,os,bare⟩
    cases q:H b with
    | none=>exact un.keep b o e q (by intro z; exact absurd (show b∈([]:List Addr) from z) (by simp)) (by simp)
    | some u =>
     rcases hO b with z | ⟨ob,xs,z⟩
     ·rw [q] at z; cases z
     ·have z2:=un.frzs b ob _ z
      obtain ⟨e1,_⟩:=hok b _ z
      obtain ⟨e2,_⟩:=hok' b _ z2
      rw [e] at e1; cases e1
      exact e2
 cases hk:K.lookup a with
 | some o =>
  -- the script is one of the module's own objects
  have e:=KX a o hk
  rw [ha] at e
  cases e
  refine core (fun _=>none) (fun _=>.inl rfl) (.inr ⟨_,vs.toArray,_,hk,rfl,rfl,rfl,by rw [List.size_toArray,lenV]; exact hl,by simpa using rv⟩) (fun b u z=>by have z':(none:Option HO)=some u:=z; cases z') (fun b z=>absurd rfl z) fun z=>absurd rfl z
 | none =>
  refine core (fun b=>if b=a then some (.frz { cls:=.type "list",data:=.seq vs.toArray } (.lst (ns.map V.int))) else none) (fun b=>?_) (.inl (.inr ⟨{ cls:=.type "list",data:=.seq vs.toArray },if_pos rfl⟩)) (fun b u z=>?_) (fun b z=>?_) fun _=>hk
  ·by_cases hb:b=a
   ·exact .inr ⟨_,_,if_pos hb⟩
   ·exact .inl (if_neg hb)
  ·by_cases hb:b=a
   ·have z':=(if_pos hb).symm.trans z
    cases z'
    subst hb
    exact ⟨ha,by rw [List.length_map]; exact hl,vs,_,rv,ha⟩
   ·have z':=(if_neg hb).symm.trans z
    cases z'
  ·by_cases hb:b=a
   ·exact hb
   ·exact absurd (if_neg hb) z
end L2
namespace L2
open PySem PySem.Spec PyProof.Rows
theorem walk_of {l:PySem.W.OpenLaw} {n k:Nat} {q:Program} {loose:List Str} {XP:(Str→Option Value)→Heap→Prop} {YP:World→Heap→Prop} {d:DefRec} {K:Params→PySem.W.Frag} {CX:World→CXT} {sp:World→Sp} {x:Str}
  (hn:l.most=some n) (hn2:n≤sizeLine) (hdf:d.params.defaults=[]) (hr:Room k callerA)
  (hY:∀ (w:World) (h:Heap),YP w h→(K w.params).In h)
  (F:∀ (w:World) (mg:Str→Option Value) (fa:Addr) (h:Heap),(K w.params).In h→h.Ns mainGlobals mg→mg d.name=some (.ref fa) →
   ∃ fd:FuncData,(∀ (s:Shared) (u:Value),BindsTo s fd ⟨[u],[]⟩ [(x,u)]) ∧
    ∀ base:Heap,(K w.params).In base→base.Ns mainGlobals mg→FnOk l.prog w (K w.params) mg base (CX w) k fa fd [x] (sp w))
  (hsp:∀ (w:World) (H:Hp) (a:Addr) (ns:List Int),ns.length≤n→Only H→SqL (K w.params) H a (ns.map V.int)→sp w [.ref a] H (fun v _=>v=.bl true) fun _ _ _=>False)
  (hCX:∀ (w:World) (H:Hp) (s:Shared) (e:Value) (s':Shared),CX w [] H s (fun _ _ _=>False) e s'→False) :
  PySem.W.WalkO q loose XP YP l.row.toRowW d [] (fun f vs=>PySem.call f vs):=by
 refine Att.attach_call hn hdf fun w s₀ s₁ mg mb fa o pm cd doc a vs ns G Y ho hd hcd hmg hobj hints hlen hg=>?_
 have KX:=hY w _ Y
 obtain ⟨fd,hb,hF⟩:=F w mg fa _ KX G.T.g hmg
 exact zNC KX G.T.g G.T.b G.T.builtins G.T.nolimit hg hobj hints (Nat.le_trans hlen hn2) hr hF hb (fun H hO hS=>hsp w H a ns hlen hO hS) fun H e s'=>hCX w H s₁ e s'
end L2
namespace L2
open PySem PySem.Spec PyProof.Rows
noncomputable def zAU (s:Stmt):Arguments:=match s with
 | .FunctionDef _ a _ _ _ _ _ _ _ _=>a
 | _=>{ posonlyargs:=[],args:=[],vararg:=none,kwonlyargs:=[],kw_defaults:=[],kwarg:=none,defaults:=[] }
noncomputable def zAQ (s:Stmt):List Stmt:=match s with
 | .FunctionDef _ _ b _ _ _ _ _ _ _=>b
 | _=>[]
noncomputable def zAH (s:Stmt):Scope:=match s with
 | .FunctionDef _ _ _ _ _ _ sc _ _ _=>sc
 | _=>{ kind:=.function,names:=[],isGenerator:=false,isCoroutine:=false }
noncomputable abbrev CX0:CXT:=fun _ _ _ _ _ _=>False
noncomputable abbrev E0:XK:=fun _ _ _=>False
theorem pass0 {X:Cx}:zK0 CX0 X E0:=fun _ _ _ _ _ _ _ h=>h.elim
structure Fun (K:PySem.W.Frag) (x qual:Str) (st:Stmt) (f:Addr) (fd:FuncData):Prop where
 ex:∃ (oc:Value) (od:Option Addr) (kV doc pm:Value) (an:Option Addr) (cdv ct:Value) (osl:Array (Option Value)),
  fd=PySem.W.fnOf x qual (zAU st) (zAQ st) (zAH st) .none kV doc pm an cdv ct∧K.lookup f=some ⟨oc,od,.func fd,osl⟩∧PySem.W.codeIn K cdv qual=true
 kp:PySem.W.keepIn K (.ref f)=true
section
variable {P:Program} {w:World} {K:PySem.W.Frag} {mg:Str→Option Value} {base:Heap}
theorem Fun.ok {x qual:Str} {st:Stmt} {f:Addr} {fd:FuncData} {N ps:List Str} {k:Nat} {sp:Sp} (F:Fun K x qual st f fd) (S:FnScope N ps (zAH st)) (len:∀ vs H Q E,sp vs H Q E→vs.length=ps.length)
  (hbody:∀ (cdv:Value) (A:Around) (outer:List Env) (s:Shared) (H:Hp) (vs:List V) (Q:VK) (E:XK),Room k (A.deeper (envOfC qual (zAH st) s.heap.objs.size f cdv))→sp vs H Q E →
   ∃ t,PSs (cxOf CX0 P w K mg base N qual (zAH st) f cdv A outer s H E).nox (zAQ st) t∧t { nx:=fun _ H'=>Q .non H',rt:=Q } (start N vs) H):FnOk P w K mg base CX0 (k+1) f fd ps sp:=by
 obtain ⟨oc,od,kV,doc,pm,an,cdv,ct,osl,rfl,lk,hcd⟩:=F.ex
 refine fn_of lk hcd S len fun A outer s H vs Q E hr hsp=>?_
 obtain ⟨t,h,q⟩:=hbody cdv A outer s H vs Q E hr hsp
 exact ⟨t,h.nox,q⟩
theorem Fun.binds {x qual:Str} {st:Stmt} {f:Addr} {fd:FuncData} {ps:List Str} (F:Fun K x qual st f fd)
  (h:∀ (kV doc pm:Value) (an:Option Addr) (cdv ct:Value) (us:List Value),us.length=ps.length→bindArgs (PySem.W.fnOf x qual (zAU st) (zAQ st) (zAH st) .none kV doc pm an cdv ct) ⟨us,[]⟩=pure (ps.zip us)):Binds K fd ps []:=by
 obtain ⟨oc,od,kV,doc,pm,an,cdv,ct,osl,rfl,lk,hcd⟩:=F.ex
 exact .all (h kV doc pm an cdv ct)
theorem zBR {x qual:Str} {st:Stmt} {f:Addr} {oc:Value} {od an:Option Addr} {osl:Array (Option Value)} {kV doc pm cdv ct:Value} (l:K.lookup f=some ⟨oc,od,.func (PySem.W.fnOf x qual (zAU st) (zAQ st) (zAH st) .none kV doc pm an cdv ct),osl⟩)
  (c:PySem.W.codeIn K cdv qual=true) (k:PySem.W.keepIn K (.ref f)=true):Fun K x qual st f (PySem.W.fnOf x qual (zAU st) (zAQ st) (zAH st) .none kV doc pm an cdv ct):=⟨⟨oc,od,kV,doc,pm,an,cdv,ct,osl,rfl,l,c⟩,k⟩
end
theorem zEA {n:Nat} (h:n≤1000):n<sizeLine:=Nat.lt_of_le_of_lt h (by decide)
section
variable {X:Cx}
theorem pv (i:Nat) {x:Str} {pos:Pos} (hN:X.N[i]?=some x:=by rfl) (hv:Vis X.env.scope x:=by first | exact Or.inl rfl | exact Or.inr (Or.inl rfl) | exact Or.inr (Or.inr rfl)) (hd:(x == ("__debug__":Str))=false:=by decide)
  (hcd:(x == ("__classdict__":Str))=false:=by decide):PE X (.Name x pos) (tVar i):=zD5 hN hv hd hcd
end
theorem iteF {A B:Prop} (h:B):if false=true then A else B:=by
 rw [if_neg Bool.false_ne_true]
 exact h
theorem iteT {A B:Prop} (h:A):if true=true then A else B:=by
 rw [if_pos rfl]
 exact h
end L2
namespace TS
open PySem PyProof.Rows
section
variable {prog:Program} {w:World} {A:Around} {E:Value→Shared→Prop} {s:Shared} {a₀:Array Keyed} {kd:SortKind}
structure SB (a₀:Array Keyed) (kd:SortKind) (st:SortSt):Prop where
 perm:(arrOf st).Perm a₀
 kind:kindOf st=kd
 failed:failedOf st=none
theorem SB.size {st:SortSt} (h:SB a₀ kd st):(arrOf st).size=a₀.size:=h.perm.size_eq
theorem SB.setArr {st:SortSt} (h:SB a₀ kd st) {xs:Array Keyed} (hp:xs.Perm (arrOf st)):SB a₀ kd (setArr st xs):=⟨hp.trans h.perm,h.kind,h.failed⟩
theorem SB.mem {st:SortSt} (h:SB a₀ kd st) {i:Nat} (hi:i<(arrOf st).size):(arrOf st)[i]∈a₀:=h.perm.mem_iff.mp (Array.getElem_mem hi)
theorem zCT {st:SortSt} {arr:Array Keyed} {i:Nat} {Q:Keyed→SortSt→Prop} (hi:i<arr.size) (h:Q arr[i] st):wpS (model prog w) A E s (elem' arr i) Q st:=by
 rw [elem'_eq,getElem?_pos arr i hi]
 exact wpS_pure h
theorem zAJ {α:Type} {c:Prop} [Decidable c] {x y:StateT SortSt Sem α} {Q:α→SortSt→Prop} {st:SortSt} (h1:c→wpS (model prog w) A E s x Q st) (h2:¬ c→wpS (model prog w) A E s y Q st) :
  wpS (model prog w) A E s (if c then x else y) Q st:=by
 by_cases h:c
 ·rw [if_pos h]; exact h1 h
 ·rw [if_neg h]; exact h2 h
end
end TS
namespace TS
open PySem PyProof.Rows
section
variable {prog:Program} {w:World} {A:Around} {E:Value→Shared→Prop} {s:Shared} {a₀:Array Keyed} {kd:SortKind}
theorem zF1 {st:SortSt} {i j:Nat} {Q:PUnit→SortSt→Prop} (h:Q ⟨⟩ (setArr st (mirror (arrOf st) i j ((j - i) / 2)))):wpS (model prog w) A E s (reverseSlice' i j) Q st:=by
 rw [reverseSlice'_eq]
 exact wpS_modify h
noncomputable def Kp (a₀:Array Keyed) (kd:SortKind) (st st':SortSt):Prop:=SB a₀ kd st'∧pendingOf st'=pendingOf st
theorem Kp.rev {st st':SortSt} {i j d:Nat} (h:Kp a₀ kd st st'):Kp a₀ kd st (setArr st' (mirror (arrOf st') i j d)):=⟨h.1.setArr (mirror_perm _ _ _ _),h.2⟩
end
end TS
namespace TS
open PySem PyProof.Rows
noncomputable def zEB:Bool→Keyed→Array Keyed→Nat→Nat→Nat→StateT SortSt Sem (Option Nat):=sortPriv% PySem.Builtin.gallop
section
variable {prog:Program} {w:World} {A:Around} {E:Value→Shared→Prop} {s:Shared} {a₀:Array Keyed} {kd:SortKind}
end
end TS
namespace TS
open PySem PyProof.Rows
noncomputable def zCD:Nat→StateT SortSt Sem Unit:=sortPriv% PySem.Builtin.setMinGallop
noncomputable abbrev zG0 (st:SortSt) (g:Nat):SortSt:=SortSt.mk' (kindOf st) (arrOf st) (pendingOf st) g (failedOf st)
theorem zDY (g:Nat):zCD g=modify fun s=>zG0 s g:=rfl
noncomputable def zND:Array Keyed→Array Keyed→StateT SortSt Sem (Array Keyed):=sortPriv% PySem.Builtin.mergeLo
noncomputable def zNE:Array Keyed→Array Keyed→StateT SortSt Sem (Array Keyed):=sortPriv% PySem.Builtin.mergeHi
structure Mid (a b out:Array Keyed) (ia ib:Nat):Prop where
 perm:(out.toList++a.toList.drop ia++b.toList.drop ib).Perm (a.toList++b.toList)
 la:ia≤a.size
 lb:ib≤b.size
 sz:out.size=ia+ib
theorem Mid.pushB {a b out:Array Keyed} {ia ib:Nat} (m:Mid a b out ia ib) (h:ib<b.size):Mid a b (out.push b[ib]) ia (ib+1):=by
 refine ⟨?_,m.la,h,by rw [Array.size_push,m.sz]; omega⟩
 have e:b.toList.drop ib=b[ib]::b.toList.drop (ib+1):=by
  rw [List.drop_eq_getElem_cons (by simpa using h)]; simp
 have p:=m.perm
 rw [e] at p
 refine List.Perm.trans ?_ p
 rw [Array.toList_push]
 simp only [List.append_assoc,List.singleton_append]
 exact List.Perm.append_left _ (List.perm_middle.symm)
theorem Mid.pushA {a b out:Array Keyed} {ia ib:Nat} (m:Mid a b out ia ib) (h:ia<a.size):Mid a b (out.push a[ia]) (ia+1) ib:=by
 refine ⟨?_,h,m.lb,by rw [Array.size_push,m.sz]; omega⟩
 have e:a.toList.drop ia=a[ia]::a.toList.drop (ia+1):=by
  rw [List.drop_eq_getElem_cons (by simpa using h)]; simp
 have p:=m.perm
 rw [e] at p
 refine List.Perm.trans ?_ p
 rw [Array.toList_push]
 simp only [List.append_assoc,List.singleton_append,List.cons_append]
 exact List.Perm.refl _
theorem zLE (a:Array Keyed) (i:Nat):(a.extract i a.size).toList=a.toList.drop i:=by
 rw [Array.toList_extract]
 exact List.take_of_length_le (by simp)
theorem Mid.done {a b out:Array Keyed} {ia ib:Nat} (m:Mid a b out ia ib):(out++a.extract ia a.size++b.extract ib b.size).Perm (a++b):=by
 rw [Array.perm_iff_toList_perm]
 simp only [Array.toList_append,zLE]
 exact m.perm
theorem Mid.lastA {a b out:Array Keyed} {ia ib:Nat} (m:Mid a b out ia ib):(out++b.extract ib b.size++a.extract ia a.size).Perm (a++b):=by
 rw [Array.perm_iff_toList_perm]
 simp only [Array.toList_append,zLE]
 refine List.Perm.trans ?_ m.perm
 simp only [List.append_assoc]
 exact List.Perm.append_left _ List.perm_append_comm
section
variable {prog:Program} {w:World} {A:Around} {E:Value→Shared→Prop} {s:Shared} {a₀:Array Keyed} {kd:SortKind}
noncomputable def Gal (st st':SortSt):Prop:=∃ g,st'=zG0 st g
theorem Gal.refl (st:SortSt):Gal st st:=⟨gallopOf st,rfl⟩
theorem Gal.set {st st':SortSt} (h:Gal st st') (g:Nat):Gal st (zG0 st' g):=by
 obtain ⟨g',rfl⟩:=h; exact ⟨g,rfl⟩
theorem Gal.kind {st st':SortSt} (h:Gal st st') (hk:kindOf st=kd):kindOf st'=kd:=by
 obtain ⟨g',rfl⟩:=h; exact hk
theorem zPZ {st:SortSt} {g:Nat} {Q:Unit→SortSt→Prop} (h:Q () (zG0 st g)):wpS (model prog w) A E s (zCD g) Q st:=by
 rw [zDY]; exact wpS_modify h
end
end TS
namespace TS
open PySem PyProof.Rows
structure MidH (a b out:Array Keyed) (na nb:Nat):Prop where
 perm:(a.toList.take na++b.toList.take nb++out.toList.reverse).Perm (a.toList++b.toList)
 la:na≤a.size
 lb:nb≤b.size
 sz:out.size+na+nb=a.size+b.size
theorem zG1 (a:Array Keyed) (n:Nat) (h:n - 1<a.size) (h0:1≤n):a.toList.take n=a.toList.take (n - 1)++[a[n - 1]]:=by
 obtain ⟨m,rfl⟩:∃ m,n=m+1:=⟨n - 1,by omega⟩
 have h':m<a.toList.length:=by simpa using h
 simp only [Nat.add_sub_cancel]
 rw [List.take_succ_eq_append_getElem h']
 simp
theorem MidH.pushA {a b out:Array Keyed} {na nb:Nat} (m:MidH a b out na nb) (h0:1≤na) (h:na - 1<a.size):MidH a b (out.push a[na - 1]) (na - 1) nb:=by
 refine ⟨?_,by omega,m.lb,by rw [Array.size_push]; have:=m.sz; omega⟩
 have p:=m.perm
 rw [zG1 a na h h0] at p
 refine List.Perm.trans ?_ p
 rw [Array.toList_push,List.reverse_append]
 simp only [List.append_assoc,List.singleton_append,List.reverse_cons,List.reverse_nil,List.nil_append,List.cons_append]
 exact List.Perm.append_left _ List.perm_middle
theorem MidH.pushB {a b out:Array Keyed} {na nb:Nat} (m:MidH a b out na nb) (h0:1≤nb) (h:nb - 1<b.size):MidH a b (out.push b[nb - 1]) na (nb - 1):=by
 refine ⟨?_,m.la,by omega,by rw [Array.size_push]; have:=m.sz; omega⟩
 have p:=m.perm
 rw [zG1 b nb h h0] at p
 rw [Array.toList_push,List.reverse_append]
 simpa only [List.append_assoc,List.singleton_append,List.reverse_cons,List.reverse_nil,List.nil_append,List.cons_append] using p
theorem zH7 (a:Array Keyed) (i n:Nat) (h:i≤n):a.toList.take i++(a.extract i n).toList=a.toList.take n:=by
 rw [Array.toList_extract]
 show a.toList.take i++(a.toList.drop i).take (n - i)=_
 conv=>rhs; rw [show n=i+(n - i) by omega]
 rw [List.take_add]
theorem zI2 (a:Array Keyed) (i:Nat):(a.extract 0 i).toList=a.toList.take i:=by
 have:=zH7 a 0 i (Nat.zero_le _)
 simpa using this
theorem MidH.done {a b out:Array Keyed} {na nb:Nat} (m:MidH a b out na nb):(a.extract 0 na++b.extract 0 nb++out.reverse).Perm (a++b):=by
 rw [Array.perm_iff_toList_perm]
 simp only [Array.toList_append,zI2,Array.toList_reverse]
 exact m.perm
theorem MidH.firstB {a b out:Array Keyed} {na nb:Nat} (m:MidH a b out na nb):(b.extract 0 nb++a.extract 0 na++out.reverse).Perm (a++b):=by
 rw [Array.perm_iff_toList_perm]
 simp only [Array.toList_append,zI2,Array.toList_reverse]
 refine List.Perm.trans ?_ m.perm
 exact List.Perm.append_right _ List.perm_append_comm
section
variable {prog:Program} {w:World} {A:Around} {E:Value→Shared→Prop} {s:Shared} {a₀:Array Keyed} {kd:SortKind}
end
end TS
namespace TS
open PySem PyProof.Rows
theorem zLF (c:List Keyed):∀ (a:Array Keyed) (sa k:Nat),sa+k+c.length≤a.size →
  ((c.zipIdx k).foldl (fun a (p:Keyed × Nat)=>a.setIfInBounds (sa+p.2) p.1) a).toList=a.toList.take (sa+k)++c++a.toList.drop (sa+k+c.length):=by
 induction c with
 | nil=>intro a sa k h; simp
 | cons x r ih =>
  intro a sa k h
  rw [List.zipIdx_cons,List.foldl_cons]
  have hl:(x::r).length=r.length+1:=rfl
  rw [ih (a.setIfInBounds (sa+k) x) sa (k+1) (by rw [Array.size_setIfInBounds]; omega)]
  have hlt:sa+k<a.toList.length:=by simp; omega
  rw [Array.toList_setIfInBounds]
  rw [show sa+(k+1)=(sa+k)+1 by omega]
  rw [List.take_succ_eq_append_getElem (by simpa using hlt),List.take_set_of_le (Nat.le_refl _),List.getElem_set_self,List.drop_set_of_lt (by omega)]
  rw [show sa+k+1+r.length=sa+k+(x::r).length by rw [hl]; omega]
  simp
theorem zLG {a c:Array Keyed} {sa sb nb:Nat} (h1:sa≤sb) (h2:sb+nb≤a.size) (hp:c.Perm (a.extract sa sb++a.extract sb (sb+nb))) :
  (c.toList.zipIdx.foldl (fun a (p:Keyed × Nat)=>a.setIfInBounds (sa+p.2) p.1) a).Perm a:=by
 have hl:c.toList.length=(sb - sa)+nb:=by
  have:=hp.size_eq
  rw [Array.size_append,Array.size_extract,Array.size_extract] at this
  simp
  omega
 rw [Array.perm_iff_toList_perm,zLF c.toList a sa 0 (by omega)]
 have hp':=Array.perm_iff_toList_perm.mp hp
 rw [Array.toList_append] at hp'
 have e1:=zH7 a sa sb h1
 have e2:=zH7 a sb (sb+nb) (by omega)
 have e3:=List.take_append_drop (sb+nb) a.toList
 have q:(a.toList.take (sa+0)++c.toList++a.toList.drop (sa+0+c.toList.length)).Perm (a.toList.take sa++((a.extract sa sb).toList++(a.extract sb (sb+nb)).toList)++a.toList.drop (sb+nb)):=by
  rw [show sa+0=sa by omega,show sa+c.toList.length=sb+nb by omega]
  exact List.Perm.append_right _ (List.Perm.append_left _ hp')
 refine q.trans ?_
 rw [← List.append_assoc,e1,e2,e3]
section
variable {prog:Program} {w:World} {A:Around} {E:Value→Shared→Prop} {s:Shared} {a₀:Array Keyed} {kd:SortKind}
theorem zP0 {st st2:SortSt} {Q:PUnit→SortSt→Prop} (h:Q ⟨⟩ st2):wpS (model prog w) A E s (set st2:StateT SortSt Sem PUnit) Q st:=by
 unfold wpS; rw [StateT.run_set]; exact wpAny_pure ⟨rfl,h⟩
end
end TS
namespace TS
open PySem PyProof.Rows
noncomputable abbrev Run:=Nat × Nat × Nat
section
variable {prog:Program} {w:World} {A:Around} {E:Value→Shared→Prop} {s:Shared} {a₀:Array Keyed} {kd:SortKind}
theorem zSK {c:Prop} [Decidable c] {a b n:Nat} (h1:a≤n) (h2:b≤n):(if c then a else b)≤n:=by
 split
 ·exact h1
 ·exact h2
end
end TS
namespace L2
open PySem PySem.Spec PyProof.Rows
noncomputable def PTs (X:Cx) (ifs:List Expr) (t:TT):Prop :=
 ∀ (pins:List (Addr × Obj)) (s:Shared) (σ:St) (H:Hp) (Q:Bool→Hp→Prop),Inv X pins σ H s→t σ H Q →
  wpAny (model X.prog X.w) X.A (forIn ifs true fun c r=>if r=true then do let ok ← isTrue c X.env (eval c X.env); pure (ForInStep.yield ok) else pure (ForInStep.yield r)) (TP X pins σ Q) X.xe s
noncomputable def tYes:TT:=fun _ H Q=>Q true H
theorem pts_nil {X:Cx}:PTs X [] tYes:=fun _ _ _ H _ I h=>wpAny_tests_nil ⟨H,I,h⟩
theorem zP1 {X:Cx} {c:Expr} {t:TT} (h:PT X c t):PTs X [c] t:=fun pins s σ H Q I hw=>wpAny_tests_one (h pins s σ H Q I hw)
noncomputable def zAW (X:Cx) (scope:Scope) (cl:List (Str × Addr)) (nm:List Str) (C:Addr) (s:Shared) (H:Hp) (fp:List Addr):Cx where
 prog:=X.prog
 w:=X.w
 K:=X.K
 mg:=X.mg
 base:=X.base
 A:=X.A
 N:=nm
 s₀:=s
 H₀:=H
 env:=compEnvC scope cl C X.env
 outer:=X.stack
 stack:=X.stack
 ex:=fp
 fn:=fun _=>false
 calm:=X.calm
 pn:=[]
 xe:=fun _ _=>False
noncomputable def capOf (k:Nat) (js:List Nat) (σ:St):St:=List.replicate k none++js.map fun j=>(σ[j]?).getD none
structure CompNm (X:Cx) (scope:Scope) (cl:List (Str × Addr)) (own caps:List Str) (js:List Nat):Prop where
 clos:closureFor scope X.env=pure cl
 kind:scope.kind=.function
 nocell:∀ y∈scope.names,y.2≠.cell
 loc:∀ y∈scope.names,y.2=.local→scope.names.lookup y.1=some .local
 dom:∀ y∈scope.names,y.2=.free→y.1∈caps
 nm:cl.map (·.1)=caps
 cells:∀ p∈cl,X.env.cells.lookup p.1=some p.2
 slot:caps.map some=js.map fun j=>X.N[j]?
 vis:∀ x∈caps,X.env.kindOf x=some .cell∨X.env.kindOf x=some .free
 fr:∀ x∈caps,(relabel scope X.env).names.lookup x=some .cell∨(relabel scope X.env).names.lookup x=some .free
 no:∀ x∈own,x∉caps
 dis:∀ x∈own,scope.names.lookup x=some .local
theorem zE6 {α β:Type} [BEq α] [LawfulBEq α]:∀ {l:List (α × β)} {x:α} {c:β},l.lookup x=some c→(x,c)∈l
 | [],_,_,h=>by simp at h
 | (a,b)::r,x,c,h=>by
  rw [List.lookup_cons] at h
  cases e:x == a with
  | true=>rw [e] at h; cases h; have:=eq_of_beq e; subst this; exact List.mem_cons_self
  | false=>rw [e] at h; exact List.mem_cons_of_mem _ (zE6 h)
theorem zCX {α β:Type} [BEq α] [LawfulBEq α]:∀ {l:List (α × β)} {x:α},x∈l.map (·.1)→∃ c,l.lookup x=some c
 | [],_,h=>by simp at h
 | (a,b)::r,x,h=>by
  rw [List.lookup_cons]
  cases e:x == a with
  | true=>exact ⟨b,rfl⟩
  | false =>
   refine zCX ?_
   rcases List.mem_cons.mp h with q | q
   ·have q:x=a:=q
    subst q; simp at e
   ·exact q
theorem zB3 {env:Env}:∀ {names:List (Str × NameKind)} {x:Str} {k:NameKind},(names.map fun (n,k)=>if (k == NameKind.free && env.scope.kind == .function && env.kindOf n == some .cell) then (n,NameKind.cell) else (n,k)).lookup x=some k →
  (k=.cell∨k=.free)→∃ k',(x,k')∈names∧(k'=.cell∨k'=.free)
 | [],_,_,h,_=>by simp at h
 | (n,k0)::r,x,k,h,hk=>by
  rw [List.map_cons,List.lookup_cons] at h
  by_cases hc:(k0 == NameKind.free && env.scope.kind == .function && env.kindOf n == some .cell)=true
  ·simp only [hc,if_true] at h
   cases e:x == n with
   | true =>
    have:=eq_of_beq e; subst this
    have hf:k0=.free:=by
     have:=(Bool.and_eq_true_iff.mp (Bool.and_eq_true_iff.mp hc).1).1
     exact eq_of_beq this
    exact ⟨k0,List.mem_cons_self,.inr hf⟩
   | false =>
    rw [e] at h
    obtain ⟨k',h1,h2⟩:=zB3 h hk
    exact ⟨k',List.mem_cons_of_mem _ h1,h2⟩
  ·simp only [hc,if_false,Bool.false_eq_true] at h
   cases e:x == n with
   | true =>
    rw [e] at h
    have:=eq_of_beq e; subst this
    cases h
    exact ⟨k0,List.mem_cons_self,hk⟩
   | false =>
    rw [e] at h
    obtain ⟨k',h1,h2⟩:=zB3 h hk
    exact ⟨k',List.mem_cons_of_mem _ h1,h2⟩
section
variable {X:Cx} {scope:Scope} {cl:List (Str × Addr)} {own caps:List Str} {js:List Nat}
theorem CompNm.cl_of (n:CompNm X scope cl own caps js) {x:Str} {c:Addr} (h:cl.lookup x=some c):X.env.cells.lookup x=some c:=n.cells _ (zE6 h)
theorem CompNm.has (n:CompNm X scope cl own caps js) {x:Str} (h:x∈caps):∃ c,cl.lookup x=some c:=zCX (by rw [n.nm]; exact h)
theorem Inv.stk_of {pins:List (Addr × Obj)} {σ:St} {H:Hp} {s:Shared} {b:Addr} (I:Inv X pins σ H s) (hf:FpOk X pins H b):b∉frs X.stack:=fun z=>by
 rcases List.mem_cons.mp (I.stkSub b z) with e | e
 ·exact hf.2.1 e
 ·exact hf.2.2.1 e
theorem zJ6 {pins:List (Addr × Obj)} {σ:St} {H:Hp} {s:Shared} {fp:List Addr} {h₁:Heap} {m:Str→Option Value} {tk:Nat} {own':List Str} (n:CompNm X scope cl own caps js) (I:Inv X pins σ H s) (hf:∀ b∈fp,FpOk X pins H b)
  (hlt:∀ b∈fp,b<s.heap.objs.size) (hns:h₁.Ns s.heap.objs.size m) (old:∀ b o,s.heap.get? b=some o→h₁.get? b=some o) :
  Inv (zAW X scope cl (own++caps) s.heap.objs.size s H fp) [] (capOf own.length js σ) H { s with heap:=h₁,toks:=tk }:=by
 have hl:js.length=caps.length:=by
  have:=congrArg List.length n.slot
  simpa using this.symm
 refine ⟨⟨I.ok.mod,n.kind,I.ok.glob,I.ok.blt,Nat.le_refl _,fun x y c h1 h2=>I.ok.inj x y c (n.cl_of h1) (n.cl_of h2),fun x hx=>?_,(fun x c h=>nomatch h),I.ok.hd,I.ok.frames,.inl rfl,fun b hb=>⟨Nat.ne_of_lt (hlt b hb),fun x c e=>(hf b hb).2.2.2.2.1 x c (n.cl_of e)⟩,
   I.bs,Nat.le_trans I.ok.bsz I.sz,fun b o e hb=>?_,fun b hb=>I.stk_of (hf b hb),I.stack,I.stkFree⟩,
  rfl,I.bare,Un.kept old,⟨m,hns,fun i x v e1 e2 e3=>?_⟩,fun x c e=>?_,I.hok.fresh (Nat.le_refl _),fun x c e=>I.freeC x c (n.cl_of e),(fun p hp=>nomatch hp),I.hok.kept old,?_⟩
 ·have hx:(relabel scope X.env).names.lookup x=some .cell∨(relabel scope X.env).names.lookup x=some .free:=hx
  have key:∃ k',(x,k')∈scope.names∧(k'=.cell∨k'=.free):=by
   rcases hx with h | h
   ·exact zB3 h (.inl rfl)
   ·exact zB3 h (.inr rfl)
  obtain ⟨k',h1,h2⟩:=key
  rcases h2 with h2 | h2
  ·exact absurd h2 (n.nocell _ h1)
  ·exact n.has (n.dom _ h1 h2)
 ·obtain ⟨_,_,_,h4,_⟩:=hf b hb
  rcases h4 with h4 | h4
  ·exact I.ok.noex b o e h4
  ·exact absurd (Nat.lt_of_lt_of_le (Heap.lt_size e) I.ok.bsz) (Nat.not_lt.mpr h4)
 ·-- a captured name
  have hi:own.length≤i:=by
   rcases Nat.lt_or_ge i own.length with h | h
   ·unfold capOf at e2
    rw [List.getElem?_append_left (by simpa using h),List.getElem?_replicate,if_pos h] at e2
    cases e2
   ·exact h
  have e1:(own++caps)[i]?=some x:=e1
  rw [List.getElem?_append_right hi] at e1
  unfold capOf at e2
  rw [List.getElem?_append_right (by simpa using hi),List.length_replicate,List.getElem?_map] at e2
  cases ej:js[i - own.length]? with
  | none=>rw [ej] at e2; cases e2
  | some j =>
   rw [ej] at e2
   have e2:some ((σ[j]?).getD none)=some (some v):=e2
   have hj:X.N[j]?=some x:=by
    have q:=congrArg (fun l=>l[i - own.length]?) n.slot
    simp only [List.getElem?_map,e1,ej,Option.map_some] at q
    exact (Option.some.inj q).symm
   have hv:σ[j]?=some (some v):=by
    cases es:σ[j]? with
    | none=>rw [es] at e2; cases e2
    | some o=>rw [es] at e2; exact e2
   have hxc:x∈caps:=List.mem_of_getElem? e1
   obtain ⟨m0,hn0,hl0⟩:=I.loc
   have vis:Vis X.env.scope x:=by
    rcases n.vis x hxc with k | k
    ·exact .inr (.inl k)
    ·exact .inr (.inr k)
   obtain ⟨u,r,lk⟩:=hl0 j x v hj hv vis
   refine ⟨u,r,.inr ⟨n.fr x hxc,?_⟩⟩
   obtain ⟨c,hc⟩:=n.has hxc
   refine ⟨c,hc,?_⟩
   rcases lk with ⟨k,_⟩ | ⟨_,c',hc',z⟩
   ·rcases n.vis x hxc with k' | k'
    ·rw [k] at k'; cases k'
    ·rw [k] at k'; cases k'
   ·rw [n.cl_of hc] at hc'
    cases hc'
    obtain ⟨o,ho,hd⟩:=z
    exact ⟨o,old _ _ ho,hd⟩
 ·obtain ⟨v,o,ho,hd⟩:=I.cell x c (n.cl_of e)
  exact ⟨v,o,old _ _ ho,hd⟩
 ·show (capOf own.length js σ).length=(own++caps).length
  unfold capOf
  rw [List.length_append,List.length_append,List.length_replicate,List.length_map,hl]
end
end L2
namespace L2
open PySem PySem.Spec PyProof.Rows
noncomputable abbrev TM:=St→Hp→(St→Hp→Prop)→Prop
noncomputable def PM (X:Cx) (m:Sem Unit) (t:TM):Prop :=
 ∀ (pins:List (Addr × Obj)) (s:Shared) (σ:St) (H:Hp) (N:St→Hp→Prop),Inv X pins σ H s→t σ H N→wpAny (model X.prog X.w) X.A m (fun _ s'=>∃ σ' H',Inv X pins σ' H' s'∧N σ' H') (fun _ _=>False) s
noncomputable def tWalkC (J:It) (g:TG) (tt:TT) (tm:TM):TM:=fun σ H N=>∃ W:Nat→Nat→St→Hp→Prop,(∃ m,W 0 m σ H)∧∀ i m σ H,W i m σ H →
 (J.stop i H∧N σ H)∨(J.go i H∧∀ x H',J.yld i H x H'→g x σ H' fun σ2 H2=>tt σ2 H2 fun b H3 =>
  if b=true then tm σ2 H3 (fun σ4 H4=>∃ m',m'<m∧W (i+1) m' σ4 H4) else ∃ m',m'<m∧W (i+1) m' σ2 H3)
theorem zOU {Y:Cx} {e:Expr} {d:Nat} {it:Addr} {acc:Value} {tg:Expr} {ifs:List Expr} {pp:Pos} {m:Sem Unit} {g:TG} {tt:TT} {tm:TM} {J:It} {fp:List Addr} {tn:Nat→Heap→Prop} {N:St→Hp→Prop} {R:Result→Shared→Prop}
  (hund:Y.A.under (.compLoop e d (.ref it) acc Y.env)=Y.A) (hden:(model Y.prog Y.w).den (.compLoop e d (.ref it) acc Y.env)=(compTurn e d (.ref it) acc Y.env).onRaise (fun x=>do noteFrame x Y.env; theTreesLotGoes x))
  (hturn:compTurn e d (.ref it) acc Y.env=(do
   standAt pp
   match ← pyNext (.ref it) with
   | none=>pure (.done .next)
   | some v =>
    letOwnedTupleGo tg (.ref it) v
    assign tg Y.env v
    let mut ok:=true
    for c in ifs do
     if ok then ok ← isTrue c Y.env (eval c Y.env)
    if ok then m
    again (.compLoop e d (.ref it) acc Y.env)))
  (hx:Y.xe=fun _ _=>False) (hc:Y.calm=true) (hg:PG Y tg g) (ht:PTs Y ifs tt) (hm:PM Y m tm) (T:Turn Y.prog Y.w Y.K tg J fp it tn)
  {pins:List (Addr × Obj)} {σ:St} {H:Hp} {s:Shared} (I:Inv Y pins σ H s) (st:tn 0 s.heap) (f:∀ b∈fp,FpOk Y pins H b) (h:tWalkC J g tt tm σ H N)
  (hR:∀ σ' H' s',Inv Y pins σ' H' s'→N σ' H'→R (.ok .next) s') :
  codeAny (model Y.prog Y.w) Y.A (.compLoop e d (.ref it) acc Y.env) R s:=by
 obtain ⟨W,⟨m0,w0⟩,turn⟩:=h
 have stat:∀ {H':Hp},(∀ b∈fp,H' b=none)→∀ b∈fp,FpOk Y pins H' b:=fun hn b hb=>⟨hn b hb,(f b hb).2⟩
 have hxe:∀ {α:Type} {t:Sem α} {Q:α→Shared→Prop} {s:Shared} {E:Value→Shared→Prop},wpAny (model Y.prog Y.w) Y.A t Q Y.xe s→wpAny (model Y.prog Y.w) Y.A t Q E s:=fun h=>wpAny_mono h (fun _ _ q=>q) fun _ _ z=>by rw [hx] at z; exact z.elim
 refine codeAny_loop rfl (fun k s'=>∃ i σ' H',Inv Y pins σ' H' s'∧tn i s'.heap∧(∀ b∈fp,H' b=none)∧W i k σ' H') (fun n s3 hI=>?_) m0 ⟨0,σ,H,I,st,fun b hb=>(f b hb).1,w0⟩
 obtain ⟨i,σ3,H3,I3,st3,fr3,w3⟩:=hI
 rw [hund,hden]
 refine wpAny_noted ?_
 rw [hturn]
 refine wpAny_bind (wpAny_standAt (wpAny_bind ?_))
 rcases turn i n σ3 H3 w3 with ⟨stop,qn⟩ | ⟨go,step⟩
 ·refine thn (T.done Y rfl rfl rfl hc i pins s3 σ3 H3 _ I3 (stat fr3) st3 stop) fun r s4 ⟨hr,I4⟩=>?_
  subst hr
  exact wpAny_pure (hR _ _ _ I4 qn)
 ·refine thn (T.item Y rfl rfl rfl hc i pins s3 σ3 H3 _ I3 (stat fr3) st3 go) fun r s4 ⟨u,hr,h4⟩=>?_
  subst hr
  refine wpAny_bind (thn h4 fun _ s5 ⟨x,H5,I5,r5,y5,st5,fr5⟩=>?_)
  have I5':=I5.pinned (stat fr5) (T.obj _ _ st5)
  refine wpAny_bind (thn (hxe (hg _ s5 σ3 H5 x u _ I5' r5 (step x H5 y5))) fun _ s6 ⟨σ6,H6,I6,q6⟩=>?_)
  have again:∀ {σ7:St} {H7:Hp} {s7:Shared},Inv Y (pins++zGP fp s5.heap) σ7 H7 s7→(∃ m',m'<n∧W (i+1) m' σ7 H7)→∃ m,m<n∧∃ i σ' H',Inv Y pins σ' H' s7∧tn i s7.heap∧(∀ b∈fp,H' b=none)∧W i m σ' H':=fun {σ7 H7 s7} I7 ⟨m',hm,w7⟩=>by
   refine ⟨m',hm,i+1,σ7,H7,I7.unpinned,T.keep _ _ _ st5 fun b hb o e=>(I7.pin (b,o) (List.mem_append_right _ (List.mem_append_right _ (zCS hb e)))).1,fun b hb=>?_,w7⟩
   obtain ⟨o,e,d⟩:=T.obj _ _ st5 b hb
   exact (I7.pin (b,o) (List.mem_append_right _ (List.mem_append_right _ (zCS hb e)))).2.1
  refine wpAny_bind (thn (hxe (ht _ s6 σ6 H6 _ I6 q6)) fun b s7 ⟨H7,I7,q7⟩=>?_)
  cases b with
  | false=>exact wpAny_pure ⟨rfl,again I7 q7⟩
  | true =>
   exact wpAny_bind (wpAny_mono (hm _ s7 σ6 H7 _ I7 q7) (fun _ s8 ⟨σ8,H8,I8,q8⟩=>wpAny_pure ⟨rfl,again I8 q8⟩) fun _ _ z=>z.elim)
section
variable {X:Cx} {scope:Scope} {cl:List (Str × Addr)} {own caps:List Str} {js:List Nat}
noncomputable def zG2 (wi:TI) (k:Nat) (js:List Nat) (o:HO) (g:Hp→TG) (tt:Hp→TT) (tm:Hp→Addr→TM):TE:=fun σ H Q=>wi σ H fun J H1=>∀ acc,H1 acc=none →
 tWalkC J (g (upd H1 acc o)) (tt (upd H1 acc o)) (tm (upd H1 acc o) acc) (capOf k js σ) (upd H1 acc o) fun _ H'=>Q (.ref acc) H'
theorem zDH {pins:List (Addr × Obj)} {σ:St} {H1:Hp} {s2:Shared} {E:Value→Shared→Prop} {e tg:Expr} {ifs:List Expr} {pp:Pos} {newAcc:Sem Value} {obj:Obj} {o:HO} {m:Addr→Env→Sem Unit} {g:Hp→TG} {tt:Hp→TT} {tm:Hp→Addr→TM} {J:It} {fp:List Addr} {it:Addr} {tn:Nat→Heap→Prop} {Q:VK}
  {RR:Value→Addr→Result→Shared→Prop}
  (hnew:∀ {Q:Value→Shared→Prop} {s:Shared},Q (.ref s.heap.objs.size) { s with heap:=s.heap.push obj }→wpAny (model X.prog X.w) X.A newAcc Q E s)
  (hobj:ObjOk X.prog X.w (upd H1 s2.heap.objs.size o) (s2.heap.push obj) s2.heap.objs.size o)
  (hund:∀ acc env,X.A.under (.compLoop e 0 (.ref it) acc env)=X.A) (hden:∀ acc env,(model X.prog X.w).den (.compLoop e 0 (.ref it) acc env)=(compTurn e 0 (.ref it) acc env).onRaise (fun x=>do noteFrame x env; theTreesLotGoes x))
  (hturn:∀ acc env,compTurn e 0 (.ref it) (.ref acc) env=(do
   standAt pp
   match ← pyNext (.ref it) with
   | none=>pure (.done .next)
   | some v =>
    letOwnedTupleGo tg (.ref it) v
    assign tg env v
    let mut ok:=true
    for c in ifs do
     if ok then ok ← isTrue c env (eval c env)
    if ok then m acc env
    again (.compLoop e 0 (.ref it) (.ref acc) env)))
  (hstart:∀ {acc:Value} {env:Env} {R:Result→Shared→Prop} {s:Shared},codeAny (model X.prog X.w) X.A (.compLoop e 0 (.ref it) acc env) R s→wpAny (model X.prog X.w) X.A (pyIter (.ref it)) (fun it' s'=>codeAny (model X.prog X.w) X.A (.compLoop e 0 it' acc env) R s')
   (notedBy (model X.prog X.w) X.A env fun x s'=>R (.error x) s') s→codeAny (model X.prog X.w) X.A (.compStart e 0 (.ref it) acc env) R s)
  (n:CompNm X scope cl own caps js) (hc:X.calm=true) (hg:∀ C s H fp,PG (zAW X scope cl (own++caps) C s H fp) tg (g H)) (ht:∀ C s H fp,PTs (zAW X scope cl (own++caps) C s H fp) ifs (tt H))
  (hm:∀ C s H fp acc,PM (zAW X scope cl (own++caps) C s H fp) (m acc (compEnvC scope cl C X.env)) (tm H acc))
  (I2:Inv X pins σ H1 s2) (T:Turn X.prog X.w X.K tg J fp it tn) (st2:tn 0 s2.heap) (f2:∀ b∈fp,FpOk X pins H1 b)
  (hW:∀ acc,H1 acc=none→tWalkC J (g (upd H1 acc o)) (tt (upd H1 acc o)) (tm (upd H1 acc o) acc) (capOf own.length js σ) (upd H1 acc o) fun _ H'=>Q (.ref acc) H')
  (hRR:∀ acc C H' s' m,Inv X pins σ H' s'→H' C=none→C≠X.env.locals→X.s₀.heap.objs.size≤C→(∀ x c,X.env.cells.lookup x=some c→c≠C)→(∀ p∈X.pn++pins,p.1≠C)→s'.heap.Ns C m→Q (.ref acc) H'→RR (.ref acc) C (.ok .next) s') :
  wpAny (model X.prog X.w) X.A newAcc (fun acc s₃=>wpAny (model X.prog X.w) X.A (newFunctionEnv scope X.env.globals cl [] X.env.qual none .none (some X.env)) (fun cenv s₄ =>
   codeAny (model X.prog X.w) X.A (.compStart e 0 (.ref it) acc { cenv with scope:=relabel scope X.env }) (RR acc cenv.locals) s₄) E s₃) E s2:=by
 refine hnew (wpAny_newFunctionEnv n.nocell (by intro y hy; simp at hy) (fun h₁ hns₁ hsb₁=>?_) n.kind)
 dsimp only at hns₁ hsb₁ ⊢
 have hnewA:H1 s2.heap.objs.size=none:=I2.hok.fresh (Nat.le_refl _)
 have I3:Inv X pins σ (upd H1 s2.heap.objs.size o) { s2 with heap:=s2.heap.push obj } :=
  I2.laid (t':=s2.toks) (fun b u e=>Heap.get?_push_of_some _ e) (Nat.le_refl _) hobj
 have hWa:=hW s2.heap.objs.size hnewA
 generalize hs3:({ s2 with heap:=s2.heap.push obj }:Shared)=s3 at I3
 have hh3:s2.heap.push obj=s3.heap:=by rw [← hs3]
 have old2:∀ b o,s2.heap.get? b=some o→s3.heap.get? b=some o:=fun b o e=>by rw [← hh3]; exact Heap.get?_push_of_some _ e
 rw [hh3] at hns₁ hsb₁ ⊢
 have hlt2:∀ b∈fp,b<s2.heap.objs.size:=fun b hb=>by obtain ⟨o,ho,_⟩:=T.obj _ _ st2 b hb; exact Heap.lt_size ho
 have hsz:s3.heap.objs.size=s2.heap.objs.size+1:=by rw [← hh3,Heap.size_push]
 have f3:∀ b∈fp,FpOk X pins (upd H1 s2.heap.objs.size o) b:=fun b hb=>by
  obtain ⟨q,r⟩:=f2 b hb
  exact ⟨by rw [zAF (Nat.ne_of_lt (hlt2 b hb))]; exact q,r⟩
 have old3:∀ b o,s3.heap.get? b=some o→h₁.get? b=some o:=fun b o e=>hsb₁.extBut b o (Nat.ne_of_lt (Heap.lt_size e)) (Heap.get?_push_of_some _ e)
 have e4:({ s2 with heap:=h₁,toks:=s2.toks+([]:List (Str × Value)).length }:Shared)={ s3 with heap:=h₁,toks:=s2.toks+([]:List (Str × Value)).length }:=by rw [← hs3]
 have IY:=zJ6 (own':=[]) (tk:=s2.toks+([]:List (Str × Value)).length) n I3 f3 (fun b hb=>by rw [hsz]; exact Nat.lt_succ_of_lt (hlt2 b hb)) hns₁ old3
 have stY:tn 0 h₁:=T.keep _ _ _ st2 fun b hb o e=>old3 b o (old2 b o e)
 have stat:∀ b∈fp,FpOk (zAW X scope cl (own++caps) s3.heap.objs.size s3 (upd H1 s2.heap.objs.size o) fp) [] (upd H1 s2.heap.objs.size o) b:=fun b hb =>
   ⟨(f3 b hb).1,Nat.ne_of_lt (by show b<s3.heap.objs.size; rw [hsz]; exact Nat.lt_succ_of_lt (hlt2 b hb)),I3.stk_of (f3 b hb),.inl hb,fun x c e=>(f3 b hb).2.2.2.2.1 x c (n.cl_of e),(fun p hp=>nomatch hp)⟩
 have loop:∀ s4:Shared,s4={ s3 with heap:=h₁,toks:=s2.toks+([]:List (Str × Value)).length } →
   codeAny (model X.prog X.w) X.A (.compLoop e 0 (.ref it) (.ref s2.heap.objs.size) (compEnvC scope cl s3.heap.objs.size X.env)) (RR (.ref s2.heap.objs.size) s3.heap.objs.size) s4:=by
  rintro s4 rfl
  refine zOU (Y:=zAW X scope cl (own++caps) s3.heap.objs.size s3 (upd H1 s2.heap.objs.size o) fp) (hund _ _) (hden _ _) (hturn _ _) rfl hc (hg _ _ _ _) (ht _ _ _ _) (hm _ _ _ _ _) T IY stY stat hWa ?_
  intro σ6 H6 s6 I6 q
  have I7:Inv X pins σ H6 s6:=I3.call' I6.os I6.base I6.hok I6.bare fun b hb=>by
   obtain ⟨_,g1,_,g3,g4,g5⟩:=f3 b hb
   exact ⟨g3,g1,g4,g5⟩
  obtain ⟨mC,hnC,_⟩:=I6.loc
  exact hRR _ _ H6 s6 mC I7 I6.free (Nat.ne_of_gt I3.lt) I3.sz (fun x c e z=>by
    obtain ⟨v,zc⟩:=I3.cell x c e
    exact absurd zc.lt (by rw [z]; exact Nat.lt_irrefl _))
   (fun p hp z=>absurd (Heap.lt_size (I3.pin p hp).1) (by rw [z]; exact Nat.lt_irrefl _)) hnC q
 rw [e4]
 exact hstart (loop _ rfl) (T.self _ 0 _ _ _ stY (loop _ rfl))
end
section
variable {X:Cx} {scope:Scope} {cl:List (Str × Addr)} {own caps:List Str} {js:List Nat}
noncomputable def tEmit (acc:Addr) (te:TE):TM:=fun σ H N=>te σ H fun y H4=>∃ ys,H4 acc=some (.lst ys)∧ys.length<sizeLine∧N σ (upd H4 acc (.lst (ys++[y])))
theorem zH8 {acc:Addr} {elt:Expr} {te:TE} (hx:X.xe=fun _ _=>False) (he:PE X elt te):PM X (do let _ ← call (.builtin "list.append") [.ref acc,← eval elt X.env]) (tEmit acc te):=by
 intro pins s σ H N I h
 have h1:=he pins s σ H _ I h
 rw [hx] at h1
 refine wpAny_bind (thn h1 fun yv s10 ⟨y,H10,I10,r10,ys,ha,hz,q⟩=>?_)
 have:=zD8 (X:=X) _ s10 σ H10 (.ref acc) [y] (.ref acc) [yv] (fun v H'=>v=.non∧H'=upd H10 acc (.lst (ys++[y]))) I10 rfl (.cons r10 .nil) ⟨_,ys,y,rfl,rfl,ha,hz,rfl,rfl⟩
 refine wpAny_bind (wpAny_mono this (fun _ s11 ⟨v,H11,I11,_,_,eH⟩=>wpAny_pure ⟨σ,H11,I11,?_⟩) fun _ _ z=>by rw [hx] at z; exact z)
 subst eH
 exact q
noncomputable def zOV (wi:TI) (g:TG) (tt:TT) (tm:TM):TM:=fun σ H N=>wi σ H fun J H1=>tWalkC J g tt tm σ H1 N
theorem zCE {prog:Program} {w:World} {A:Around} {R:Result→Shared→Prop} {s:Shared} {elt g0 target iter ifs rest scope pos it acc env}
  (h0:codeAny (model prog w) A (.compLoop (.ListComp elt (g0::⟨target,iter,ifs,0⟩::rest) scope pos) 1 it acc env) R s)
  (h:wpAny (model prog w) A (pyIter it) (fun it' s'=>codeAny (model prog w) A (.compLoop (.ListComp elt (g0::⟨target,iter,ifs,0⟩::rest) scope pos) 1 it' acc env) R s')
   (notedBy (model prog w) A env fun x s'=>R (.error x) s') s) :
  codeAny (model prog w) A (.compStart (.ListComp elt (g0::⟨target,iter,ifs,0⟩::rest) scope pos) 1 it acc env) R s:=by
 refine codeAny_of_tree ?_
 show wpAny _ A ((compStart (.ListComp elt (g0::⟨target,iter,ifs,0⟩::rest) scope pos) 1 it acc env).onRaise (fun x=>do noteFrame x env; standAt theWindowsPlace)) _ _ s
 refine wpAny_notedAt ?_
 unfold compStart
 show wpAny _ A (ask >>= _) _ _ s
 refine wpAny_bind (wpAny_askSetting (wpAny_ite ?_))
 split
 ·first
   | exact wpAny_bind (wpAny_pure (wpAny_pure (And.intro rfl h0)))
   | exact wpAny_pure (And.intro rfl h0)
 ·first
   | exact wpAny_bind (wpAny_rule (wpAny_bind (wpAny_standAt (wpAny_bind (wpAny_mono h (fun it' s' h'=>wpAny_pure (And.intro rfl h')) fun _ _ x=>x)))))
   | (refine wpAny_bind (wpAny_rule ?_); show wpAny _ _ (standAt iter.pos >>= _) _ _ s; exact wpAny_bind (wpAny_standAt (wpAny_bind (wpAny_mono h (fun it' s' h'=>wpAny_pure (And.intro rfl h')) fun _ _ x=>x))))
theorem zP2 {acc:Addr} {elt tg iter:Expr} {g0:Comprehension} {ifs:List Expr} {pos:Pos} {wi:TI} {g:TG} {tt:TT} {te:TE} {sc:Scope} (hx:X.xe=fun _ _=>False) (hc:X.calm=true) (hi:PI X tg iter wi) (hg:PG X tg g) (ht:PTs X ifs tt) (he:PE X elt te)
  (hs:∀ x,foldedSetIterable iter X.env x=pure x):PM X (do
    let x ← eval iter X.env
    standAt iter.pos
    let x ← foldedSetIterable iter X.env x
    let _ ← runOwn (.compStart (.ListComp elt [g0,⟨tg,iter,ifs,0⟩] sc pos) 1 (← holding [x] (pyIter x)) (.ref acc) X.env) X.env) (zOV wi g tt (tEmit acc te)):=by
 intro pins s σ H N I h
 have h1:=hi pins s σ H _ I h
 rw [hx] at h1
 refine wpAny_bind (thn h1 fun v s1 h2=>wpAny_bind (wpAny_standAt (wpAny_bind (wpAny_of_eq (hs v) (wpAny_bind (wpAny_holding (thn h2 fun itv s2 h3=>?_)))))))
 obtain ⟨it,fp,tn,J,H2,e,I2,T,st2,f2,hW⟩:=h3
 subst e
 refine wpAny_bind (wpAny_runOwn (zCE ?_ (T.self _ 0 _ _ _ st2 ?_)))
 all_goals
  refine zOU (Y:=X) (pp:=iter.pos) (m:=(do let _ ← call (.builtin "list.append") [.ref acc,← eval elt X.env])) rfl rfl rfl hx hc hg ht (zH8 hx he) T I2 st2 f2 hW ?_
  intro σ' H' s' I' n'
  exact wpAny_pure ⟨σ',H',I',n'⟩
theorem zG3 (elt tg iter tg2 iter2:Expr) (ifs ifs2:List Expr) (scope:Scope) (pos:Pos) (it acc:Value) (env:Env) :
  compTurn (.ListComp elt [⟨tg,iter,ifs,0⟩,⟨tg2,iter2,ifs2,0⟩] scope pos) 0 it acc env=(do
   standAt iter.pos
   match ← pyNext it with
   | none=>pure (.done .next)
   | some v =>
    letOwnedTupleGo tg it v
    assign tg env v
    let mut ok:=true
    for c in ifs do
     if ok then ok ← isTrue c env (eval c env)
    if ok then (do
     let x ← eval iter2 env
     standAt iter2.pos
     let x ← foldedSetIterable iter2 env x
     let _ ← runOwn (.compStart (.ListComp elt [⟨tg,iter,ifs,0⟩,⟨tg2,iter2,ifs2,0⟩] scope pos) 1 (← holding [x] (pyIter x)) acc env) env)
    again (.compLoop (.ListComp elt [⟨tg,iter,ifs,0⟩,⟨tg2,iter2,ifs2,0⟩] scope pos) 0 it acc env)):=by
 simp only [bind_assoc,pure_bind]
 rfl
theorem zTH {elt tg iter tg2 iter2:Expr} {ifs ifs2:List Expr} {pos:Pos} {wi:TI} {wi2:Hp→TI} {g g2:Hp→TG} {tt tt2:Hp→TT} {te:Hp→TE} (n:CompNm X scope cl own caps js) (hc:X.calm=true) (hi:PI X tg iter wi)
  (hg:∀ C s H fp,PG (zAW X scope cl (own++caps) C s H fp) tg (g H)) (ht:∀ C s H fp,PTs (zAW X scope cl (own++caps) C s H fp) ifs (tt H))
  (hi2:∀ C s H fp,PI (zAW X scope cl (own++caps) C s H fp) tg2 iter2 (wi2 H)) (hg2:∀ C s H fp,PG (zAW X scope cl (own++caps) C s H fp) tg2 (g2 H)) (ht2:∀ C s H fp,PTs (zAW X scope cl (own++caps) C s H fp) ifs2 (tt2 H))
  (he:∀ C s H fp,PE (zAW X scope cl (own++caps) C s H fp) elt (te H))
  (hs:∀ x,foldedSetIterable iter X.env x=pure x:=by intro _; rfl) (hs2:∀ C x,foldedSetIterable iter2 (compEnvC scope cl C X.env) x=pure x:=by intro _ _; rfl) :
  PE X (.ListComp elt [⟨tg,iter,ifs,0⟩,⟨tg2,iter2,ifs2,0⟩] scope pos) (zG2 wi own.length js (.lst []) g tt fun H acc=>zOV (wi2 H) (g2 H) (tt2 H) (tEmit acc (te H))):=by
 intro pins s σ H Q I h
 rw [eval_ListComp]
 refine wpAny_comprehension_free (use:=none) rfl hs n.clos n.kind n.loc (wpAny_mono (hi pins s σ H _ I h) (fun xv s₁ h₁=>wpAny_mono h₁ (fun itv s₂ h₂=>?_) fun _ _ e=>e) fun _ _ e=>e)
 obtain ⟨it,fp,tn,J,H2,e,I2,T,st2,f2,hW⟩:=h₂
 subst e
 refine zDH (obj:={ cls:=.type "list",dict:=none,data:=.seq ([]:List Value).toArray }) (pp:=iter.pos) (ifs:=ifs) (tg:=tg) (RR:=fun acc C=>compPost (model X.prog X.w) X.A X.xe none (EP X pins σ Q) acc C)
  (m:=fun acc env=>(do
    let x ← eval iter2 env
    standAt iter2.pos
    let x ← foldedSetIterable iter2 env x
    let _ ← runOwn (.compStart (.ListComp elt [⟨tg,iter,ifs,0⟩,⟨tg2,iter2,ifs2,0⟩] scope pos) 1 (← holding [x] (pyIter x)) (.ref acc) env) env))
  (o:=.lst []) (fun {Q s} h=>wpAny_newObj_type h) (show ObjOk _ _ _ _ _ (.lst []) from ⟨Nat.zero_le _,[],0,.nil,Heap.get?_push_size _ rfl⟩) (fun _ _=>rfl) (fun _ _=>rfl) (fun _ _=>zG3 _ _ _ _ _ _ _ _ _ _ _ _) (fun h0 h1=>codeAny_compStart_list h0 h1) n hc hg ht
  (fun C s H fp acc=>zP2 (X:=zAW X scope cl (own++caps) C s H fp) rfl hc (hi2 C s H fp) (hg2 C s H fp) (ht2 C s H fp) (he C s H fp) (hs2 C)) I2 T st2 f2 hW ?_
 intro acc C H' s' m I' hC h1 h2 h3 h4 hn q
 exact ⟨m,hn,fun h' sb=>⟨.ref acc,H',I'.turned (t':=s'.toks) (fun b o hb e=>sb.extBut b o hb e) hC h1 (.inr h2) h3 h4,rfl,q⟩⟩
theorem zP3 {elt tg iter:Expr} {ifs:List Expr} {pos:Pos} {wi:TI} {g:Hp→TG} {tt:Hp→TT} {te:Hp→TE} (n:CompNm X scope cl own caps js) (hc:X.calm=true) (hi:PI X tg iter wi)
  (hg:∀ C s H fp,PG (zAW X scope cl (own++caps) C s H fp) tg (g H)) (ht:∀ C s H fp,PTs (zAW X scope cl (own++caps) C s H fp) ifs (tt H)) (he:∀ C s H fp,PE (zAW X scope cl (own++caps) C s H fp) elt (te H))
  (hs:∀ x,foldedSetIterable iter X.env x=pure x:=by intro _; rfl):PE X (.ListComp elt [⟨tg,iter,ifs,0⟩] scope pos) (zG2 wi own.length js (.lst []) g tt fun H acc=>tEmit acc (te H)):=by
 intro pins s σ H Q I h
 rw [eval_ListComp]
 refine wpAny_comprehension_free (use:=none) rfl hs n.clos n.kind n.loc (wpAny_mono (hi pins s σ H _ I h) (fun xv s₁ h₁=>wpAny_mono h₁ (fun itv s₂ h₂=>?_) fun _ _ e=>e) fun _ _ e=>e)
 obtain ⟨it,fp,tn,J,H2,e,I2,T,st2,f2,hW⟩:=h₂
 subst e
 refine zDH (obj:={ cls:=.type "list",dict:=none,data:=.seq ([]:List Value).toArray }) (pp:=iter.pos) (ifs:=ifs) (tg:=tg) (RR:=fun acc C=>compPost (model X.prog X.w) X.A X.xe none (EP X pins σ Q) acc C)
  (m:=fun acc env=>(do let _ ← call (.builtin "list.append") [.ref acc,← eval elt env]))
  (o:=.lst []) (fun {Q s} h=>wpAny_newObj_type h) (show ObjOk _ _ _ _ _ (.lst []) from ⟨Nat.zero_le _,[],0,.nil,Heap.get?_push_size _ rfl⟩) (fun _ _=>rfl) (fun _ _=>rfl) (fun _ _=>rfl) (fun h0 h1=>codeAny_compStart_list h0 h1) n hc hg ht
  (fun C s H fp acc=>zH8 (X:=zAW X scope cl (own++caps) C s H fp) rfl (he C s H fp)) I2 T st2 f2 hW ?_
 intro acc C H' s' m I' hC h1 h2 h3 h4 hn q
 exact ⟨m,hn,fun h' sb=>⟨.ref acc,H',I'.turned (t':=s'.toks) (fun b o hb e=>sb.extBut b o hb e) hC h1 (.inr h2) h3 h4,rfl,q⟩⟩
theorem zE7 {i:Nat} {x:Str} {elt tg iter:Expr} {ifs:List Expr} {pos pos' spos:Pos} {wi:TI} {g:Hp→TG} {tt:Hp→TT} {te:Hp→TE} (n:CompNm X scope cl own caps js) (hc:X.calm=true) (hi:PI X tg iter wi)
  (hg:∀ C s H fp,PG (zAW X scope cl (own++caps) C s H fp) tg (g H)) (ht:∀ C s H fp,PTs (zAW X scope cl (own++caps) C s H fp) ifs (tt H)) (he:∀ C s H fp,PE (zAW X scope cl (own++caps) C s H fp) elt (te H))
  (hN:X.N.Nodup) (hx:X.N[i]?=some x) (hl:X.env.scope.names.lookup x=some .local)
  (hsw:swapsWith (.ListComp elt [⟨tg,iter,ifs,0⟩] scope pos) (some (.Name x pos')) spos.line X.env=pure true)
  (hs:∀ x,foldedSetIterable iter X.env x=pure x:=by intro _; rfl):PS X (.Assign [.Name x pos'] (.ListComp elt [⟨tg,iter,ifs,0⟩] scope pos) spos) (tAsg (zG2 wi own.length js (.lst []) g tt fun H acc=>tEmit acc (te H)) (gName i)):=by
 intro pins s σ H D I h
 rw [exec_Assign_Name_used _ _ _ _ hsw]
 refine wpAny_bind (wpAny_standAt (wpAny_bind ?_))
 show wpAny _ X.A (do let _ ← comprehension (.ListComp elt [⟨tg,iter,ifs,0⟩] scope pos) scope X.env _ (newList []) false (eval iter X.env) (some (assign (.Name x pos') X.env))) _ _ s
 refine wpAny_bind (wpAny_mono (wpAny_comprehension_free (use:=some (assign (.Name x pos') X.env)) (Q:=fun _ s'=>SP X pins D .next s') rfl hs n.clos n.kind n.loc
  (wpAny_mono (hi pins s σ H _ I h) (fun xv s₁ h₁=>wpAny_mono h₁ (fun itv s₂ h₂=>?_) fun _ _ e=>e) fun _ _ e=>e)) (fun _ s' hq=>wpAny_pure (wpAny_pure hq)) fun _ _ e=>e)
 obtain ⟨it,fp,tn,J,H2,e,I2,T,st2,f2,hW⟩:=h₂
 subst e
 refine zDH (obj:={ cls:=.type "list",dict:=none,data:=.seq ([]:List Value).toArray }) (pp:=iter.pos) (ifs:=ifs) (tg:=tg) (Q:=fun x H1=>gName i x σ H1 D.nx) (RR:=fun acc C=>compPost (model X.prog X.w) X.A X.xe (some (assign (.Name x pos') X.env)) (fun _ s'=>SP X pins D .next s') acc C)
  (m:=fun acc env=>(do let _ ← call (.builtin "list.append") [.ref acc,← eval elt env]))
  (o:=.lst []) (fun {Q s} h=>wpAny_newObj_type h) (show ObjOk _ _ _ _ _ (.lst []) from ⟨Nat.zero_le _,[],0,.nil,Heap.get?_push_size _ rfl⟩) (fun _ _=>rfl) (fun _ _=>rfl) (fun _ _=>rfl) (fun h0 h1=>codeAny_compStart_list h0 h1) n hc hg ht
  (fun C s H fp acc=>zH8 (X:=zAW X scope cl (own++caps) C s H fp) rfl (he C s H fp)) I2 T st2 f2 hW ?_
 intro acc C H' s' m I' hC h1 h2 h3 h4 hn q
 show wpAny _ X.A (assign (.Name x pos') X.env (.ref acc)) _ _ _
 refine wpAny_assign_Name (zGN I' hN hx (.inl hl) (v:=.ref acc) rfl (fun s'' I'' sb=>?_) (.inr hl))
 obtain ⟨a,sb,ha⟩:=sb
 have hCa:C≠a:=by
  rcases ha with ha | ha
  ·rw [ha]; exact h1
  ·exact fun z=>h3 x a ha z.symm
 exact ⟨m,hn.sameBut sb hCa,fun h' sb'=>⟨_,H',I''.turned (t':=s''.toks) (fun b o hb e=>sb'.extBut b o hb e) hC h1 (.inr h2) h3 h4,q⟩⟩
end
end L2
namespace L2
open PySem PySem.Spec PyProof.Rows
end L2
namespace TS
open PySem PySem.W PyProof.Rows
section
variable {prog:Program} {w:World} {A:Around} {E:Value→Shared→Prop} {s:Shared}
theorem zG4 {vs:List Value} {xs:Array Keyed} (h:xs.Perm (pairsOf vs)):(xs.map (·.2)).toList.Perm vs:=by
 have p:=(Array.perm_iff_toList_perm.mp h).map (·.2)
 rw [pairsOf_toList] at p
 have e:(vs.zip vs).map (·.2)=vs:=List.map_snd_zip (Nat.le_refl _)
 rw [e] at p
 simpa using p
end
end TS
namespace L2
open PySem PySem.Spec PyProof.Rows
theorem Vals.perm {us ws:List Value} (p:ws.Perm us):∀ {xs:List V},Vals xs us→∃ ys,ys.Perm xs∧Vals ys ws:=by
 induction p with
 | nil=>intro xs r; cases r; exact ⟨[],List.Perm.refl _,.nil⟩
 | cons a _ ih =>
  intro xs r
  cases r with
  | cons h t =>
   obtain ⟨ys,q,r'⟩:=ih t
   exact ⟨_::ys,q.cons _,.cons h r'⟩
 | swap a b l =>
  intro xs r
  cases r with
  | cons h t =>
   cases t with
   | cons h' t'=>exact ⟨_::_::_,List.Perm.swap _ _ _,.cons h' (.cons h t')⟩
 | trans _ _ ih1 ih2 =>
  intro xs r
  obtain ⟨ys,q,r'⟩:=ih2 r
  obtain ⟨zs,q',r''⟩:=ih1 r'
  exact ⟨zs,q'.trans q,r''⟩
noncomputable def zOW (H:Hp) (y:V):Prop:=∃ (p:Addr) (n:Int) (ns:List Int),y=.ref p∧H p=some (.tup ((n::ns).map V.int))
theorem zLH {X:Cx} {pins:List (Addr × Obj)} {σ:St} {H:Hp} {s:Shared} (I:Inv X pins σ H s):∀ {ys:List V} {us:List Value},Vals ys us→(∀ y∈ys,zOW H y) →
  ∃ fs:List Value,fs.length=us.length∧PySem.W.KatTups s.heap us fs∧(∀ v∈fs,∃ n t,v=.int n t)∧∀ u∈us,∃ (p:Addr) (its:List Value) (ns:List Int),u=.ref p∧IsTup s.heap p its.toArray∧IntsAre its ns
 | _,_,.nil,_=>⟨[],rfl,PySem.W.KatTups.nil,(fun v hv=>nomatch hv),(fun u hu=>nomatch hu)⟩
 | _,_,.cons r t,h=>by
  obtain ⟨fs,e1,e2,e3,e4⟩:=zLH I t fun y hy=>h y (List.mem_cons_of_mem _ hy)
  obtain ⟨p,n,ns,ey,hp⟩:=h _ List.mem_cons_self
  subst ey
  cases r
  obtain ⟨its,rv,tp,_⟩:=I.tuple (SqT.of (K:=X.K) hp)
  have hi:IntsAre its (n::ns):=zBV rv
  have hi0:=hi
  cases hi with
  | cons _ tk r' =>
   obtain ⟨o,ho,hc,k,hd⟩:=id tp
   refine ⟨.int n tk::fs,by rw [List.length_cons,List.length_cons,e1],PySem.W.KatTups.cons ho hc hd (by simp) e2,fun v hv=>?_,fun u hu=>?_⟩
   ·rcases List.mem_cons.mp hv with rfl | hv
    ·exact ⟨_,_,rfl⟩
    ·exact e3 v hv
   ·rcases List.mem_cons.mp hu with rfl | hu
    ·exact ⟨p,_,n::ns,rfl,tp,hi0⟩
    ·exact e4 u hu
theorem zG5 {h h':Heap} (k:∀ b o,h.get? b=some o→h'.get? b=some o):∀ {us fs:List Value},PySem.W.KatTups h us fs→PySem.W.KatTups h' us fs
 | [],[],_=>PySem.W.KatTups.nil
 | [],_::_,t=>t.elim
 | _::_,[],t=>t.elim
 | _::_,_::_,t=>by
  obtain ⟨⟨a,o,xs,n,e,ho,r⟩,t⟩:=t
  exact ⟨⟨a,o,xs,n,e,k _ _ ho,r⟩,zG5 k t⟩
end L2
namespace L2
open PySem PySem.Spec PyProof.Rows
section
variable {prog:Program} {w:World} {A:Around} {E:Value→Shared→Prop} {s:Shared}
structure RawD (h:Heap) (d:Addr) (es:Array DictEntry) (ep:Nat):Prop where
 ex:∃ o,h.get? d=some o∧o.ExactDict∧o.data=.dict es ep
 ns:(d == sysModules)=false
theorem RawD.ty {d:Addr} {es:Array DictEntry} {ep:Nat} (r:RawD s.heap d es ep):s.TypeIs (.ref d) "dict":=let ⟨o,h1,h2,_⟩:=r.ex; ⟨o,h1,h2.1⟩
theorem zP4 {d:Addr} {es:Array DictEntry} {ep:Nat} {Q:Value→Shared→Prop} (r:RawD s.heap d es ep) (hf:(es.size:Int)<2 ^ 63) (h:∀ t tk,Q (.int es.size t) { s with toks:=tk }) :
  wpAny (model prog w) A (call (.builtin "len") [.ref d]) Q E s:=by
 obtain ⟨o,ho,hc,hd⟩:=r.ex
 refine Calls.call_function_entry kind_len plain_len entry_len (args_len1 _) ?_
 unfold Builtin.«len»
 refine wpAny_bind (m:=oneArg "len" _) (wpAny_pure ?_)
 refine wpAny_bind (m:=callSpecial? (.ref d) (Str.ofString "__len__")) (wpAny_callSpecial?_slot (name:=Str.ofString "__len__") r.ty F.slot_dict_len (wpAny_call_entry F.slot_dict_len r.ty F.entry_dict_len ?_ (F.args_dict_len_1 _)))
 show wpAny _ _ (dictSize d >>= _) _ _ s
 unfold dictSize
 refine wpAny_bind (wpAny_bind (wpAny_dictEntries ho hd (wpAny_pure ?_)))
 show wpAny _ _ (Builtin.Dict.pendingCount d >>= _) _ _ s
 refine wpAny_bind (wpAny_pendingCount_other r.ns ?_)
 refine wpAny_bind (wpAny_mkInt (wpAny_pure ⟨_,rfl,?_⟩))
 refine wpAny_bind (wpAny_holding (wpAny_pure (wpAny_bind (wpAny_letGo ?_))))
 show wpAny _ _ (if ((es.size:Int)+((0:Nat):Int))<0 then _ else _) _ _ _
 rw [if_neg (by omega)]
 show wpAny _ _ (if ((es.size:Int)+((0:Nat):Int)) ≥ 2 ^ 63 then _ else _) _ _ _
 rw [if_neg (by omega)]
 have e0:((es.size:Int)+((0:Nat):Int))=(es.size:Int):=by simp
 show wpAny _ _ (retInt ((es.size:Int)+((0:Nat):Int))) _ _ _
 rw [e0]
 exact wpAny_bind (wpAny_mkInt (wpAny_pure ⟨_,rfl,h _ _⟩))
theorem zD1 {d:Addr} {es:Array DictEntry} {ep:Nat} {Q:Value→Shared→Prop} (r:RawD s.heap d es ep)
  (h:∀ h',(∀ b o,s.heap.get? b=some o→h'.get? b=some o)→h'.IsKeyIter s.heap.objs.size d 0 es.size ep→Q (.ref s.heap.objs.size) { s with heap:=h' }):wpAny (model prog w) A (pyIter (.ref d)) Q E s:=by
 obtain ⟨o,ho,hc,hd⟩:=r.ex
 refine wpAny_pyIter_slot r.ty F.slot_dict_iter (wpAny_call_entry F.slot_dict_iter r.ty F.entry_dict_iter ?_ (F.args_dict_iter_1 _))
 unfold Builtin.«dict.__iter__» Builtin.Dict.dictSlotNone
 refine wpAny_bind (wpAny_bind (wpAny_notOrdered_dict r.ty (wpAny_pure ?_)))
 unfold Builtin.Dict.showsAll
 show wpAny _ _ ((if _ then _ else _) >>= _) _ _ s
 rw [if_neg (by rw [r.ns]; exact Bool.false_ne_true)]
 refine wpAny_bind (wpAny_pure (wpAny_bind (wpAny_dictEntries ho hd (wpAny_bind (wpAny_dictEpoch ho hd ?_)))))
 refine wpAny_bind (wpAny_newObj_type (wpAny_pure ⟨_,rfl,"dict_keyiterator",_,⟨_,Heap.get?_push_size _ rfl,rfl⟩,F.slot_dict_keyiterator_next.lookup,?_⟩))
 exact h _ (fun b o e=>Heap.get?_push_of_some _ e) ⟨_,Heap.get?_push_size _ rfl,rfl,by simp [rawInt]⟩
theorem zI3 {it d:Addr} {i ep:Nat} {es:Array DictEntry} {Q:Option Value→Shared→Prop} (k:s.heap.IsKeyIter it d i es.size ep) (r:RawD s.heap d es ep) (hi:i<es.size)
  (h:∀ h',h'.IsKeyIter it d (i+1) es.size ep→Heap.SameBut it s.heap h'→Q (some es[i].key) { s with heap:=h' }):wpAny (model prog w) A (pyNext (.ref it)) Q E s:=by
 obtain ⟨oi,hoi,hci,hdi⟩:=id k
 obtain ⟨o,ho,hc,hd⟩:=r.ex
 unfold pyNext
 refine wpAny_bind (wpAny_attempt (wpAny_callSpecial?_slot (name:=Str.ofString "__next__") k.typeIs F.slot_dict_keyiterator_next (wpAny_call_entry F.slot_dict_keyiterator_next k.typeIs F.entry_dict_keyiterator_next ?_ (F.args_dict_keyiterator_next_1 _))))
 refine wpAny_bind (wpAny_pure (wpAny_bind (wpAny_bind ?_)))
 first
  | refine wpAny_bind (wpAny_typeNameOfWhole_keyiter k.typeIs (wpAny_pure (wpAny_bind (wpAny_fieldsOf hoi hdi ?_))))
  | refine wpAny_bind (wpAny_typeNameOf_keyiter k.typeIs (wpAny_pure (wpAny_bind (wpAny_fieldsOf hoi hdi ?_))))
 simp only [show Builtin.Dict_items.ownsTuple "dict_keyiterator"=false by decide,Bool.false_eq_true,if_false]
 show wpAny _ _ (if (Value.ref d == Value.none)=true then _ else _) _ _ s
 rw [if_neg (show ¬ ((Value.ref d == Value.none)=true) from Bool.false_ne_true)]
 refine wpAny_bind (wpAny_pure (wpAny_bind (wpAny_dictEntries ho hd ?_)))
 rw [if_neg (by simp)]
 refine wpAny_bind (wpAny_pure (wpAny_bind (wpAny_dictEpoch ho hd ?_)))
 rw [if_neg (by simp)]
 refine wpAny_pure ?_
 simp only [show ¬ ((i:Int)<0) from by omega,if_false,Int.toNat_natCast,Array.getElem?_eq_getElem hi]
 refine wpAny_bind ?_
 first
  | refine wpAny_bind (wpAny_typeNameOfWhole_keyiter k.typeIs (wpAny_pure (wpAny_bind (wpAny_isOneOf_keyiter k.typeIs ?_))))
  | refine wpAny_bind (wpAny_typeNameOf_keyiter k.typeIs (wpAny_pure (wpAny_bind (wpAny_isOneOf_keyiter k.typeIs ?_))))
 show wpAny _ _ (setField (.ref it) 1 (rawInt ((i:Int)+1)) >>= _) _ _ s
 refine wpAny_bind (wpAny_setField hoi hdi (by simp) ?_)
 have k':(s.heap.update it (Obj.mapFields (·.setIfInBounds 1 (rawInt ((i:Int)+1))))).IsKeyIter it d (i+1) es.size ep :=
  ⟨_,Heap.get?_update_self _ hoi (Obj.isFreed_of_fields (Obj.data_mapFields hdi _)),(Obj.cls_mapFields ..).trans hci,by rw [Obj.data_mapFields hdi]; simp [rawInt]⟩
 refine wpAny_bind (wpAny_holding (wpAny_bind (wpAny_isOneOf_keyiter (s:={ s with heap:=s.heap.update it (Obj.mapFields (·.setIfInBounds 1 (rawInt ((i:Int)+1)))) }) k'.typeIs ?_)))
 show wpAny _ _ (pure es[i].key) _ _ _
 exact wpAny_pure (wpAny_pure ⟨_,rfl,wpAny_pure (h _ k' (Heap.SameBut.update ..))⟩)
theorem zLI {it d:Addr} {i ep:Nat} {es:Array DictEntry} {Q:Option Value→Shared→Prop} (hh:A.handled=none) (k:s.heap.IsKeyIter it d i es.size ep) (r:RawD s.heap d es ep) (hi:es.size≤i)
  (h:∀ h',Heap.ExtBut it s.heap h'→Q none { s with heap:=h' }):wpAny (model prog w) A (pyNext (.ref it)) Q E s:=by
 obtain ⟨oi,hoi,hci,hdi⟩:=id k
 obtain ⟨o,ho,hc,hd⟩:=r.ex
 unfold pyNext
 refine wpAny_bind (wpAny_attempt (wpAny_callSpecial?_slot (name:=Str.ofString "__next__") k.typeIs F.slot_dict_keyiterator_next (wpAny_call_entry F.slot_dict_keyiterator_next k.typeIs F.entry_dict_keyiterator_next ?_ (F.args_dict_keyiterator_next_1 _))))
 refine wpAny_bind (wpAny_pure (wpAny_bind (wpAny_bind ?_)))
 first
  | refine wpAny_bind (wpAny_typeNameOfWhole_keyiter k.typeIs (wpAny_pure (wpAny_bind (wpAny_fieldsOf hoi hdi ?_))))
  | refine wpAny_bind (wpAny_typeNameOf_keyiter k.typeIs (wpAny_pure (wpAny_bind (wpAny_fieldsOf hoi hdi ?_))))
 simp only [show Builtin.Dict_items.ownsTuple "dict_keyiterator"=false by decide,Bool.false_eq_true,if_false]
 show wpAny _ _ (if (Value.ref d == Value.none)=true then _ else _) _ _ s
 rw [if_neg (show ¬ ((Value.ref d == Value.none)=true) from Bool.false_ne_true)]
 refine wpAny_bind (wpAny_pure (wpAny_bind (wpAny_dictEntries ho hd ?_)))
 rw [if_neg (by simp)]
 refine wpAny_bind (wpAny_pure (wpAny_bind (wpAny_dictEpoch ho hd ?_)))
 rw [if_neg (by simp)]
 refine wpAny_pure ?_
 simp only [show ¬ ((i:Int)<0) from by omega,if_false,Int.toNat_natCast,Array.getElem?_eq_none hi]
 refine wpAny_bind ?_
 first
  | refine wpAny_bind (wpAny_typeNameOfWhole_keyiter k.typeIs (wpAny_pure ?_))
  | refine wpAny_bind (wpAny_typeNameOf_keyiter k.typeIs (wpAny_pure ?_))
 show wpAny _ _ (setField (.ref it) 0 .none >>= _) _ _ s
 refine wpAny_bind (wpAny_setField hoi hdi (by simp) ?_)
 show wpAny _ _ (newExc (.type "StopIteration") [] >>= _) _ _ _
 refine wpAny_bind ?_
 simp only [newExc,newTuple]
 refine wpAny_bind (wpAny_newObj_type ?_ (by size_fits))
 refine wpAny_bind (m:=firstArgMember _ _) (wpAny_of_eq (a:=Value.none) (by first | rfl | (simp only [firstArgMember]; rfl)) (wpAny_newObj_type ?_ (by size_fits)))
 simp only [raiseNew]
 refine wpAny_bind (wpAny_handled ?_)
 rw [show A.in1.handled=none from hh]
 refine wpAny_bind (wpAny_pure (wpAny_throw ?_))
 refine wpAny_bind (wpAny_isInstance (T:="StopIteration") (b:=true) ⟨_,Heap.get?_push_size _ rfl,rfl⟩ isSubtype_stop ?_)
 exact wpAny_pure (h _ (((Heap.SameBut.update ..).extBut.push _).push _))
end
theorem zE8 {P:Program} {w:World} {H:Hp} {h:Heap} {a:Addr} {kvs:List (List Key × V)} (x:ObjOk P w H h a (.dT kvs)):∃ es ep,RawD h a es ep∧es.size=kvs.length∧kvs.length≤sizeLine ∧
  ∀ (i:Nat) (hi:i<es.size),∃ (p:Addr) (k:List Key),es[i].key=.ref p∧(kvs.map (·.1))[i]?=some k∧H p=some (.tup (k.map kV)):=by
 obtain ⟨z,y,xs,r,o,es,ep,h1,h2,h3,h4,h5⟩:=x
 have hl:es.size=xs.length:=by
  have:=congrArg List.length h4
  simpa using this
 have hl2:kvs.length=xs.length:=Paired.length r
 refine ⟨es,ep,⟨⟨o,h1,h2,h3⟩,y⟩,by omega,z,fun i hi=>?_⟩
 have key:∀ {l:List (List Key × V)} {m:List (List Key × Addr × Value)},Paired (fun (p:List Key × V) (q:List Key × Addr × Value)=>p.1=q.1∧H q.2.1=some (.tup (p.1.map kV))∧RelV p.2 q.2.2) l m →
   ∀ (i:Nat) q,m[i]?=some q→∃ k,(l.map (·.1))[i]?=some k∧H q.2.1=some (.tup (k.map kV)):=by
  intro l m q
  induction q with
  | nil=>intro i q e; simp at e
  | @cons p q ps qs hq t ih =>
   intro i z e
   cases i with
   | zero=>simp at e; subst e; exact ⟨p.1,by simp,hq.2.1⟩
   | succ i=>obtain ⟨k,e1,e2⟩:=ih i z (by simpa using e); exact ⟨k,by simpa using e1,e2⟩
 have hi':i<xs.length:=by omega
 obtain ⟨k,e1,e2⟩:=key r i xs[i] (by simp [hi'])
 have e3:es[i]=entryOfKey (tupleKind (zAT P w)) xs[i]:=by
  have q:es.toList[i]?=some es[i]:=by simp [hi]
  rw [h4] at q
  simp [hi'] at q
  exact q.symm
 exact ⟨xs[i].2.1,k,by rw [e3]; rfl,e1,e2⟩
section
variable {X:Cx}
noncomputable def Itk (d:Addr) (o:Obj) (kvs:List (List Key × V)):It :=
 ⟨fun i H=>i<kvs.length∧H d=some (.frz o (.dT kvs)),fun i H x H'=>H'=H∧∃ p k,x=.ref p∧(kvs.map (·.1))[i]?=some k∧H p=some (.tup (k.map kV)),fun i H=>kvs.length≤i∧H d=some (.frz o (.dT kvs))⟩
theorem zG6 {P:Program} {w:World} {K:PySem.W.Frag} {tg:Expr} (d it:Addr) (o:Obj) (kvs:List (List Key × V)) (es:Array DictEntry) (ep:Nat) (hd:o.data=.dict es ep) (hz:es.size=kvs.length) :
  Turn P w K tg (Itk d o kvs) [it] it (fun i h=>h.IsKeyIter it d i es.size ep) where
 mem:=by simp
 obj:=fun i h st b hb=>by
  have e:b=it:=by simpa using hb
  subst e
  obtain ⟨o,e,c,d⟩:=st
  exact ⟨o,e,fun v z=>by rw [d] at z; cases z⟩
 keep:=fun i h h' st k=>let ⟨o,e,r⟩:=st; ⟨o,k it (by simp) o e,r⟩
 item:=by
  intro X hP hw hK hc i pins s σ H E I hf st hg
  subst hP hw hK
  obtain ⟨hi,hk⟩:=hg
  obtain ⟨ho,hx⟩:=I.hok d _ hk
  obtain ⟨es',ep',rw',e1,e2,e3⟩:=zE8 hx
  obtain ⟨o',q1,q2,q3⟩:=rw'.ex
  rw [ho] at q1; cases q1
  rw [hd] at q3; injection q3 with q4 q5
  subst q4; subst q5
  obtain ⟨f0,f1,f2,f3,f4,f5⟩:=hf it (by simp)
  refine zI3 st rw' (by omega) fun h' st' sb=>?_
  obtain ⟨p,k,p1,p2,p3⟩:=e3 i (by omega)
  have I1:Inv X pins σ H { s with heap:=h' }:=I.turned (t':=s.toks) (fun b ob hb e=>(sb.2 b hb).trans e) f0 f1 f3 f4 f5
  obtain ⟨oi,e,c,dd⟩:=id st'
  refine ⟨_,rfl,go_of (s:={ s with heap:=h' }) e c dd (by decide) ⟨.ref p,H,I1,p1,⟨rfl,p,k,rfl,p2,p3⟩,st',fun b hb=>(hf b hb).1⟩⟩
 done:=by
  intro X hP hw hK hc i pins s σ H E I hf st hg
  subst hP hw hK
  obtain ⟨hi,hk⟩:=hg
  obtain ⟨ho,hx⟩:=I.hok d _ hk
  obtain ⟨es',ep',rw',e1,e2,e3⟩:=zE8 hx
  obtain ⟨o',q1,q2,q3⟩:=rw'.ex
  rw [ho] at q1; cases q1
  rw [hd] at q3; injection q3 with q4 q5
  subst q4; subst q5
  obtain ⟨f0,f1,f2,f3,f4,f5⟩:=hf it (by simp)
  exact zLI (I.ok.hd hc) st rw' (by omega) fun h' eb=>⟨rfl,I.turned (t':=s.toks) (fun b ob hb e=>eb b ob hb e) f0 f1 f3 f4 f5⟩
 self:=fun _ _ _ _ _ st h=>wpAny_pyIter_keyiter st h
theorem Inv.freeze {pins:List (Addr × Obj)} {σ:St} {H:Hp} {s:Shared} {a:Addr} {kvs:List (List Key × V)} (I:Inv X pins σ H s) (ha:H a=some (.dT kvs)) :
  ∃ o,s.heap.get? a=some o∧Inv X pins σ (upd H a (.frz o (.dT kvs))) s:=by
 have x:=I.hok a _ ha
 obtain ⟨es,ep,⟨⟨o,h1,h2,h3⟩,_⟩,_⟩:=zE8 x
 have kt:∀ b ys,H b=some (.tup ys)→b≠a:=fun b ys e z=>by rw [z,ha] at e; cases e
 have ko:∀ b y,H b=some (.own y)→b≠a:=fun b y e z=>by rw [z,ha] at e; cases e
 have kf:∀ b ob u,H b=some (.frz ob u)→b≠a:=fun b ob u e z=>by rw [z,ha] at e; cases e
 have kb:∀ b ps,H b=some (.tbl ps)→b≠a:=fun b ps e z=>by rw [z,ha] at e; cases e
 have kn:∀ b,H b=none→b≠a:=fun b e z=>by rw [z,ha] at e; cases e
 refine ⟨o,h1,I.un (t':=s.toks) (h':=s.heap) ⟨fun b ob e _ _ _=>e,fun b ob e _ _ _=>⟨ob.slots,e⟩,fun b ob e n _=>by rw [zAF (kn b n)]; exact n,fun b ob e _=>⟨ob,e⟩,fun b ys e=>by rw [zAF (kt b ys e)]; exact e,fun b ob u e=>by rw [zAF (kf b ob u e)]; exact e,fun b ps e=>⟨#[],by rw [zAF (kb b ps e),e]; simp⟩⟩ fun b u e=>?_⟩
 by_cases hb:b=a
 ·subst hb
  rw [zAC] at e
  cases e
  exact ⟨h1,x.stay (fun c v _ q=>q) (fun c q=>by rw [zAF (ko c _ q)]; exact q) fun c ys q=>by rw [zAF (kt c ys q)]; exact q⟩
 ·rw [zAF hb] at e
  exact (I.hok b u e).stay (fun c v _ q=>q) (fun c q=>by rw [zAF (ko c _ q)]; exact q) fun c ys q=>by rw [zAF (kt c ys q)]; exact q
theorem zNF:CallR X (.type "range") (fun xs H Q=>∃ j:Int,xs=[.int j]∧∀ p,H p=none→Q (.ref p) (upd H p (.rng 0 j))):=by
 intro pins s σ H xs us Q I r h
 obtain ⟨j,rfl,q⟩:=h
 obtain ⟨u,rfl,ru⟩:=vals1 r
 obtain ⟨t,rfl⟩:=ru
 exact call_range_1 ⟨.ref s.heap.objs.size,_,I.laid (o:=.rng 0 j) (fun b o e=>Heap.get?_push_of_some _ e) (Nat.le_refl _) ⟨_,_,_,Heap.get?_push_size _ rfl⟩,rfl,q _ I.fresh⟩
theorem zJ7:∀ (n:Nat) (us:List Value),us.length=n→(∀ (i:Nat) v,us[i]?=some v→∃ t,v=Value.int (i:Int) t)→Vals ((List.range n).map fun i:Nat=>V.int (i:Int)) us:=by
 intro n
 induction n with
 | zero=>intro us hl _; have:=List.length_eq_zero_iff.mp hl; subst this; exact .nil
 | succ n ih =>
  intro us hl h
  have e:us=us.take n++[us[n]'(by omega)]:=by
   rw [← List.take_succ_eq_append_getElem (by omega),List.take_of_length_le (by omega)]
  rw [e,List.range_succ,List.map_append]
  refine Vals.append (ih _ (by rw [List.length_take]; omega) fun i v hv=>?_) (.cons ?_ .nil)
  ·rw [List.getElem?_take] at hv
   split at hv
   ·exact h i v hv
   ·cases hv
  ·obtain ⟨t,et⟩:=h n (us[n]'(by omega)) (by simp)
   exact ⟨t,et⟩
theorem zF2 (hc:X.calm=true):CallR X (.type "list") (fun xs H Q=>∃ (p:Addr) (n:Nat),xs=[.ref p]∧H p=some (.rng 0 (n:Int))∧n≤1000∧∀ l,H l=none→Q (.ref l) (upd H l (.lst ((List.range n).map fun i:Nat=>V.int (i:Int))))):=by
 intro pins s σ H xs us Q I r h
 obtain ⟨p,n,rfl,hp,hn,q⟩:=h
 obtain ⟨u,rfl,ru⟩:=vals1 r
 cases ru
 obtain ⟨t,u,v,e⟩:=(show ObjOk X.prog X.w H s.heap p (.rng 0 (n:Int)) from I.hok p _ hp)
 refine call_list_range (I.ok.hd hc) (show IsRange s.heap p 0 (n:Int) 1 t u v from e) (small_one (by decide) (by decide) (by omega) (by omega)) (n:=n) (by rw [rangeSize_one]; first | omega | (split <;> omega)) (by omega) fun h' tk acc c k hS hI=>?_
 obtain ⟨hz,hi⟩:=hI
 have rv:Vals ((List.range n).map fun i:Nat=>V.int (i:Int)) acc.toList:=zJ7 n _ (by simpa using hz) fun i v hv=>by
  obtain ⟨t,et⟩:=hi i v (by rw [← Array.getElem?_toList]; exact hv)
  exact ⟨t,by rw [et]; simp⟩
 refine ⟨.ref s.heap.objs.size,_,I.laid (o:=.lst ((List.range n).map fun i:Nat=>V.int (i:Int))) k (Nat.le_refl _) ⟨?_,acc.toList,c,rv,by simpa using hS⟩,rfl,q _ I.fresh⟩
 rw [List.length_map,List.length_range,sizeLine_eq]
 omega
end
end L2
namespace L2
open PySem PySem.Spec PyProof.Rows
section
variable {prog:Program} {w:World} {A:Around} {E:Value→Shared→Prop} {s:Shared}
theorem zG7 {a:Addr} {Q:Option Obj→Shared→Prop} (h:Q (s.heap.get? a) s):wpAny (model prog w) A (loadIfAlive a) Q E s:=fun Γ p hΓ=>by
 show Sem.wp _ Γ (.loadIfAlive a .pure) _ _ p s
 rw [Sem.wp_loadIfAlive]
 exact (wpAny_pure h:wpAny (model prog w) A (pure _) Q E s) Γ p hΓ
theorem zDI {it t:Addr} {i:Nat} {items:Array Value} {x:Value} {Q:Value→Shared→Prop} (k:s.heap.IsTupleIter it t i) (ht:s.heap.IsTuple t items) (hx:items[i]?=some x)
  (h:∀ h',h'.IsTupleIter it t (i+1)→Heap.SameBut it s.heap h'→Q x { s with heap:=h' }):wpAny (model prog w) A (Builtin.SmallTypes.nextOf (.ref it)) Q E s:=by
 obtain ⟨o,ho,hc,hd⟩:=id k
 obtain ⟨ol,hol,_,nl,hdl⟩:=ht
 unfold Builtin.SmallTypes.nextOf
 refine wpAny_bind (wpAny_callSpecial?_slot (name:=Str.ofString "__next__") k.typeIs F.slot_tuple_iterator_next (wpAny_call_entry F.slot_tuple_iterator_next k.typeIs F.entry_tuple_iterator_next ?_ (F.args_tuple_iterator_next_1 _)))
 show wpAny _ _ (field (.ref it) 0 >>= _) _ _ s
 refine wpAny_bind (wpAny_field ho hd (x:=.ref t) rfl ?_)
 show wpAny _ _ (if (Value.ref t == Value.none)=true then _ else _) _ _ s
 rw [if_neg (show ¬ ((Value.ref t == Value.none)=true) from Bool.false_ne_true)]
 show wpAny _ _ (field (.ref it) 1 >>= _) _ _ s
 refine wpAny_bind (wpAny_field ho hd (x:=.int i 0) rfl ?_)
 show wpAny _ _ (seqItems? (.ref t) >>= _) _ _ s
 refine wpAny_bind (wpAny_seqItems hol hdl ?_)
 simp only [Int.toNat_natCast,hx]
 refine wpAny_bind (wpAny_setField ho hd (by simp) (wpAny_pure ⟨x,rfl,wpAny_pure (h _ ?_ (Heap.SameBut.update ..))⟩))
 exact ⟨_,Heap.get?_update_self _ ho (Obj.isFreed_of_fields (Obj.data_mapFields hd _)),(Obj.cls_mapFields ..).trans hc,by rw [Obj.data_mapFields hd]; simp [rawInt]⟩
theorem zF3 {it t:Addr} {i:Nat} {items:Array Value} {Q:Value→Shared→Prop} (hh:A.handled=none) (k:s.heap.IsTupleIter it t i) (ht:s.heap.IsTuple t items) (hx:items[i]?=none)
  (h:∀ h' e,Heap.ExtBut it s.heap h'→(∃ o,h'.get? e=some o∧o.cls=.type "StopIteration")→E (.ref e) { s with heap:=h' }):wpAny (model prog w) A (Builtin.SmallTypes.nextOf (.ref it)) Q E s:=by
 obtain ⟨o,ho,hc,hd⟩:=id k
 obtain ⟨ol,hol,_,nl,hdl⟩:=ht
 unfold Builtin.SmallTypes.nextOf
 refine wpAny_bind (wpAny_callSpecial?_slot (name:=Str.ofString "__next__") k.typeIs F.slot_tuple_iterator_next (wpAny_call_entry F.slot_tuple_iterator_next k.typeIs F.entry_tuple_iterator_next ?_ (F.args_tuple_iterator_next_1 _)))
 show wpAny _ _ (field (.ref it) 0 >>= _) _ _ s
 refine wpAny_bind (wpAny_field ho hd (x:=.ref t) rfl ?_)
 show wpAny _ _ (if (Value.ref t == Value.none)=true then _ else _) _ _ s
 rw [if_neg (show ¬ ((Value.ref t == Value.none)=true) from Bool.false_ne_true)]
 show wpAny _ _ (field (.ref it) 1 >>= _) _ _ s
 refine wpAny_bind (wpAny_field ho hd (x:=.int i 0) rfl ?_)
 show wpAny _ _ (seqItems? (.ref t) >>= _) _ _ s
 refine wpAny_bind (wpAny_seqItems hol hdl ?_)
 simp only [Int.toNat_natCast,hx]
 refine wpAny_bind (wpAny_rule (wpAny_bind (wpAny_setField ho hd (by simp) ?_)))
 show wpAny _ _ (newExc (.type "StopIteration") [] >>= _) _ _ _
 refine wpAny_bind ?_
 simp only [newExc,newTuple]
 refine wpAny_bind (wpAny_newObj_type ?_ (by size_fits))
 refine wpAny_bind (m:=firstArgMember _ _) (wpAny_of_eq (a:=Value.none) (by first | rfl | (simp only [firstArgMember]; rfl)) (wpAny_newObj_type ?_ (by size_fits)))
 simp only [raiseNew]
 refine wpAny_bind (wpAny_handled ?_)
 first | rw [show A.in1.handled=none from hh] | rw [hh]
 exact wpAny_bind (wpAny_pure (wpAny_throw (h _ _ (((Heap.SameBut.update ..).extBut.push _).push _) ⟨_,Heap.get?_push_size _ rfl,rfl⟩)))
structure ZipSt (h:Heap) (n l1 l2:Addr) (i:Nat):Prop where
 zo:∃ f0 f1,h.get? (n+4)=some { cls:=.type "zip",dict:=none,data:=.fields #[f0,.bool f1,.bool false,.ref (n+2),.ref (n+3)],slots:=#[] }∧(f0=.none∨∃ T:Nat,f0=rawInt T)
 ti:IsPair h (n+2) (.ref n) (.ref (n+1))
 to:∃ a b,IsPair h (n+3) a b
 k1:h.IsTupleIter n l1 i
 k2:h.IsTupleIter (n+1) l2 i
theorem zG8 {h h':Heap} {it t:Addr} {i:Nat} (x:h.IsTupleIter it t i) (k:∀ o,h.get? it=some o→h'.get? it=some o):h'.IsTupleIter it t i:=let ⟨o,e,r⟩:=x; ⟨o,k o e,r⟩
theorem zOX {h h':Heap} {t:Addr} {its:Array Value} (x:h.IsTuple t its) (k:∀ o,h.get? t=some o→h'.get? t=some o):h'.IsTuple t its:=let ⟨o,e,r⟩:=x; ⟨o,k o e,r⟩
theorem ZipSt.keep {h h':Heap} {n l1 l2:Addr} {i:Nat} (z:ZipSt h n l1 l2 i) (k:∀ b∈[n,n+1,n+2,n+3,n+4],∀ o,h.get? b=some o→h'.get? b=some o):ZipSt h' n l1 l2 i:=by
 obtain ⟨f0,f1,e,r⟩:=z.zo
 obtain ⟨a,b,to⟩:=z.to
 exact ⟨⟨f0,f1,k _ (by simp) _ e,r⟩,k _ (by simp) _ z.ti,⟨a,b,k _ (by simp) _ to⟩,zG8 z.k1 (k _ (by simp)),zG8 z.k2 (k _ (by simp))⟩
noncomputable def zH9 (n:Addr) (h h':Heap):Prop:=∀ c o,c≠n→c≠n+1→c≠n+3→c≠n+4→h.get? c=some o→h'.get? c=some o
end
end L2
namespace L2
open PySem PySem.Spec PyProof.Rows
section
variable {prog:Program} {w:World} {A:Around} {E:Value→Shared→Prop} {s:Shared}
noncomputable abbrev IsZ (h:Heap) (n:Addr) (f0:Value) (f1:Bool):Prop:=h.get? (n+4)=some { cls:=.type "zip",dict:=none,data:=.fields #[f0,.bool f1,.bool false,.ref (n+2),.ref (n+3)],slots:=#[] }
noncomputable def F0 (f0:Value):Prop:=f0=.none∨∃ T:Nat,f0=rawInt T
theorem zCK (a:Addr) (h:Heap):Heap.SameBut a h h:=⟨rfl,fun _ _=>rfl⟩
theorem zE9 {n:Addr} {f0:Value} {f1:Bool} {Q:Bool→Shared→Prop} (hz:IsZ s.heap n f0 f1) (hf:F0 f0)
  (h:∀ b h' f1,IsZ h' n f0 f1→Heap.SameBut (n+4) s.heap h'→Q b { s with heap:=h' }):wpAny (model prog w) A (Builtin.SmallTypes.ownedTupleIsFree (.ref (n+4))) Q E s:=by
 unfold Builtin.SmallTypes.ownedTupleIsFree
 rcases hf with rfl | ⟨T,rfl⟩
 ·exact wpAny_bind (wpAny_field hz rfl (x:=.none) rfl (wpAny_pure (h true s.heap f1 hz (zCK _ _))))
 ·refine wpAny_bind (wpAny_field hz rfl (x:=rawInt T) rfl ?_)
  show wpAny _ _ (loadIfAlive (T:Int).toNat >>= _) _ _ _
  refine wpAny_bind (zG7 ?_)
  cases e:(s.heap.get? (T:Int).toNat).isNone with
  | true=>exact wpAny_pure (h true s.heap f1 hz (zCK _ _))
  | false =>
   simp only [Bool.false_eq_true,if_false]
   refine wpAny_bind (wpAny_field hz rfl (x:=.bool f1) rfl ?_)
   cases f1 with
   | true =>
    exact wpAny_pure (h false s.heap true hz (zCK _ _))
   | false =>
    show wpAny _ _ (setField (.ref (n+4)) 1 (.bool true) >>= _) _ _ _
    exact wpAny_bind (wpAny_setField_rec hz (by simp) fun h' hz' hs'=>wpAny_pure (h false h' true hz' hs'))
noncomputable def OffZ (n l:Addr):Prop:=l≠n∧l≠n+1∧l≠n+3∧l≠n+4
theorem zB1 {h h':Heap} {a t:Addr} {its:Array Value} (k:h.IsTuple t its) (hs:Heap.SameBut a h h') (ne:t≠a):h'.IsTuple t its:=zOX k fun o e=>hs.extBut _ _ ne e
theorem zA6 {h h':Heap} {a t l:Addr} {i:Nat} (k:h.IsTupleIter t l i) (hs:Heap.SameBut a h h') (ne:t≠a):h'.IsTupleIter t l i:=zG8 k fun o e=>hs.extBut _ _ ne e
theorem zB6 {n j k:Nat} (h:j≠k):n+j≠n+k:=by omega
theorem zB5 {n k:Nat} (h:k≠0):n≠n+k:=by omega
theorem zNG {n l1 l2:Addr} {i:Nat} {xs ys:Array Value} {x y:Value} {Q:Option Value→Shared→Prop} (z:ZipSt s.heap n l1 l2 i) (o1:OffZ n l1) (o2:OffZ n l2)
  (hl1:s.heap.IsTuple l1 xs) (hl2:s.heap.IsTuple l2 ys) (hx:xs[i]?=some x) (hy:ys[i]?=some y)
  (hQ:∀ h',ZipSt h' n l1 l2 (i+1)→IsPair h' s.heap.objs.size x y→h'.objs.size=s.heap.objs.size+1→zH9 n s.heap h'→Q (some (.ref s.heap.objs.size)) { s with heap:=h' }) :
  wpAny (model prog w) A (pyNext (.ref (n+4))) Q E s:=by
 obtain ⟨f0,f1,hz,hf⟩:=z.zo
 obtain ⟨a,b,hTO⟩:=z.to
 have hTI:=z.ti
 have k1:=z.k1
 have k2:=z.k2
 obtain ⟨p1,p2,p3,p4⟩:=o1
 obtain ⟨q1,q2,q3,q4⟩:=o2
 have hT:s.TypeIs (.ref (n+4)) "zip":=⟨_,hz,rfl⟩
 have d34:n+3≠n+4:=zB6 (by decide)
 have d24:n+2≠n+4:=zB6 (by decide)
 have d14:n+1≠n+4:=zB6 (by decide)
 have d04:n≠n+4:=zB5 (by decide)
 have d13:n+1≠n+3:=zB6 (by decide)
 have d03:n≠n+3:=zB5 (by decide)
 have d01:n≠n+1:=zB5 (by decide)
 have d23:n+2≠n+3:=zB6 (by decide)
 have d21:n+2≠n+1:=zB6 (by decide)
 have d20:n+2≠n:=(zB5 (by decide)).symm
 unfold pyNext
 refine wpAny_bind (wpAny_attempt (wpAny_callSpecial?_slot (name:=Str.ofString "__next__") hT F.slot_zip_next (wpAny_call_entry F.slot_zip_next hT F.entry_zip_next ?_ (F.args_zip_next_1 _))))
 show wpAny _ _ (field (.ref (n+4)) 2 >>= _) _ _ _
 refine wpAny_bind (wpAny_field hz rfl (x:=.bool false) rfl ?_)
 show wpAny _ _ (field (.ref (n+4)) 3 >>= _) _ _ _
 refine wpAny_bind (wpAny_field hz rfl (x:=.ref (n+2)) rfl ?_)
 refine wpAny_bind (wpAny_seqItems hTI rfl ?_)
 show wpAny _ _ (Builtin.SmallTypes.ownedTupleIsFree (.ref (n+4)) >>= _) _ _ _
 refine wpAny_bind (zE9 hz hf fun fr h₀ g1 hz₀ hs₀=>?_)
 have hTO₀:IsPair h₀ (n+3) a b:=hs₀.extBut _ _ d34 hTO
 have k1₀:=zA6 k1 hs₀ d04
 have k2₀:=zA6 k2 hs₀ d14
 have t1₀:=zB1 hl1 hs₀ p4
 have t2₀:=zB1 hl2 hs₀ q4
 have hTI₀:IsPair h₀ (n+2) (.ref n) (.ref (n+1)):=hs₀.extBut _ _ d24 hTI
 cases fr with
 | true =>
  simp only [if_true]
  refine wpAny_bind (wpAny_rule ?_)
  refine wpAny_bind (wpAny_field hz₀ rfl (x:=.ref (n+3)) rfl ?_)
  refine wpAny_bind (wpAny_setField_rec hz₀ (by simp) fun h₁ hz₁ hs₁=>?_)
  replace hz₁:IsZ h₁ n .ellipsis g1:=hz₁
  refine wpAny_bind ?_
  simp only [List.zipIdx_cons,List.zipIdx_nil,List.forIn_cons,List.forIn_nil]
  refine wpAny_bind (wpAny_bind (wpAny_onRaise ?_))
  show wpAny _ _ (Builtin.SmallTypes.nextOf (.ref n) >>= _) _ _ _
  refine wpAny_bind (zDI (zA6 k1₀ hs₁ d04) (zB1 t1₀ hs₁ p4) hx fun h₂ k1₂ hs₂=>wpAny_pure ?_)
  have hTO₂:IsPair h₂ (n+3) a b:=hs₂.extBut _ _ d03.symm (hs₁.extBut _ _ d34 hTO₀)
  refine wpAny_bind (wpAny_seqItems hTO₂ rfl ?_)
  refine wpAny_bind (wpAny_updateSeq_pair hTO₂ fun h₃ hTO₃ hs₃=>?_)
  replace hTO₃:IsPair h₃ (n+3) x b:=hTO₃
  refine wpAny_bind (wpAny_letGo (wpAny_pure ?_))
  refine wpAny_bind (wpAny_bind (wpAny_onRaise ?_))
  show wpAny _ _ (Builtin.SmallTypes.nextOf (.ref (n+1)) >>= _) _ _ _
  refine wpAny_bind (zDI (zA6 (zA6 (zA6 k2₀ hs₁ d14) hs₂ d01.symm) hs₃ d13) (zB1 (zB1 (zB1 t2₀ hs₁ q4) hs₂ q1) hs₃ q3) hy fun h₄ k2₄ hs₄=>wpAny_pure ?_)
  have hTO₄:IsPair h₄ (n+3) x b:=hs₄.extBut _ _ d13.symm hTO₃
  refine wpAny_bind (wpAny_seqItems hTO₄ rfl ?_)
  refine wpAny_bind (wpAny_updateSeq_pair hTO₄ fun h₅ hTO₅ hs₅=>?_)
  replace hTO₅:IsPair h₅ (n+3) x y:=hTO₅
  refine wpAny_bind (wpAny_letGo (wpAny_pure (wpAny_pure ?_)))
  refine wpAny_bind (wpAny_seqItems hTO₅ rfl ?_)
  refine wpAny_bind (wpAny_newTuple ?_)
  have hsz:h₅.objs.size=s.heap.objs.size:=by rw [hs₅.1,hs₄.1,hs₃.1,hs₂.1,hs₁.1,hs₀.1]
  have hz₅:IsZ h₅ n .ellipsis g1:=hs₅.extBut _ _ d34.symm (hs₄.extBut _ _ d14.symm (hs₃.extBut _ _ d34.symm (hs₂.extBut _ _ d04.symm hz₁)))
  have hk₅:∀ c o,c≠n+4→c≠n+3→c≠n→c≠n+1→s.heap.get? c=some o→h₅.get? c=some o:=fun c o c1 c2 c3 c4 e =>
   hs₅.extBut _ _ c2 (hs₄.extBut _ _ c4 (hs₃.extBut _ _ c2 (hs₂.extBut _ _ c3 (hs₁.extBut _ _ c1 (hs₀.extBut _ _ c1 e)))))
  have k1₅:h₅.IsTupleIter n l1 (i+1):=zA6 (zA6 (zA6 k1₂ hs₃ d03) hs₄ d01) hs₅ d03
  have k2₅:h₅.IsTupleIter (n+1) l2 (i+1):=zA6 k2₄ hs₅ d13
  have hzlt:n+4<h₅.objs.size:=Heap.lt_size hz₅
  show wpAny _ _ (Builtin.SmallTypes.ownedTupleHandOut (.ref (n+4)) (.ref h₅.objs.size) >>= _) _ _ _
  refine wpAny_bind ?_
  unfold Builtin.SmallTypes.ownedTupleHandOut
  have hz₆:IsZ (h₅.push { cls:=.type "tuple",data:=.seq #[x,y] }) n .ellipsis g1:=Heap.get?_push_of_some _ hz₅
  refine wpAny_bind (wpAny_setField_rec hz₆ (by simp) fun h₇ hz₇ hs₇=>?_)
  replace hz₇:IsZ h₇ n (rawInt h₅.objs.size) g1:=hz₇
  refine wpAny_setField_rec hz₇ (by simp) fun h₈ hz₈ hs₈=>?_
  replace hz₈:IsZ h₈ n (rawInt h₅.objs.size) false:=hz₈
  have up:∀ c o,c≠n+4→h₅.get? c=some o→h₈.get? c=some o:=fun c o c1 e=>hs₈.extBut _ _ c1 (hs₇.extBut _ _ c1 (Heap.get?_push_of_some _ e))
  have hT₈:IsPair h₈ h₅.objs.size x y:=hs₈.extBut _ _ (Nat.ne_of_gt hzlt) (hs₇.extBut _ _ (Nat.ne_of_gt hzlt) (Heap.get?_push_size _ rfl))
  have hz8:h₈.objs.size=h₅.objs.size+1:=by rw [hs₈.1,hs₇.1,Heap.size_push]
  have zs:ZipSt h₈ n l1 l2 (i+1):=⟨⟨_,_,hz₈,.inr ⟨_,rfl⟩⟩,up _ _ d24 (hk₅ _ _ d24 d23 d20 d21 hTI),⟨x,y,up _ _ d34 hTO₅⟩,zG8 k1₅ fun o e=>up _ o d04 e,zG8 k2₅ fun o e=>up _ o d14 e⟩
  rw [hsz] at hT₈ hz8
  refine wpAny_pure ⟨_,rfl,wpAny_pure ?_⟩
  show Q (some (.ref h₅.objs.size)) _
  rw [hsz]
  exact hQ h₈ zs hT₈ hz8 fun c o c1 c2 c3 c4 e=>up c o c4 (hk₅ c o c4 c3 c1 c2 e)
 | false =>
  simp only [Bool.false_eq_true,if_false]
  refine wpAny_bind ?_
  rw [← Array.forIn_toList]
  simp only [List.forIn_cons,List.forIn_nil]
  refine wpAny_bind (wpAny_bind (wpAny_holding ?_))
  show wpAny _ _ (Builtin.SmallTypes.nextOf (.ref n) >>= _) _ _ _
  refine wpAny_bind (zDI k1₀ t1₀ hx fun h₂ k1₂ hs₂=>wpAny_pure (wpAny_pure ?_))
  refine wpAny_bind (wpAny_bind (wpAny_holding ?_))
  show wpAny _ _ (Builtin.SmallTypes.nextOf (.ref (n+1)) >>= _) _ _ _
  refine wpAny_bind (zDI (zA6 k2₀ hs₂ d01.symm) (zB1 t2₀ hs₂ q1) hy fun h₄ k2₄ hs₄=>wpAny_pure (wpAny_pure (wpAny_pure ?_)))
  refine wpAny_bind (wpAny_newTuple (items:=[x,y]) ?_)
  have hsz:h₄.objs.size=s.heap.objs.size:=by rw [hs₄.1,hs₂.1,hs₀.1]
  have hk₄:∀ c o,c≠n+4→c≠n→c≠n+1→s.heap.get? c=some o→h₄.get? c=some o:=fun c o c1 c3 c4 e=>hs₄.extBut _ _ c4 (hs₂.extBut _ _ c3 (hs₀.extBut _ _ c1 e))
  have zs:ZipSt (h₄.push { cls:=.type "tuple",data:=.seq #[x,y] }) n l1 l2 (i+1):=ZipSt.keep (h:=h₄) ⟨⟨f0,g1,hs₄.extBut _ _ d14.symm (hs₂.extBut _ _ d04.symm hz₀),hf⟩,hk₄ _ _ d24 d20 d21 hTI,⟨a,b,hk₄ _ _ d34 d03.symm d13.symm hTO⟩,zA6 k1₂ hs₄ d01,k2₄⟩
   fun b _ o e=>Heap.get?_push_of_some _ e
  refine wpAny_pure ⟨_,rfl,wpAny_pure ?_⟩
  show Q (some (.ref h₄.objs.size)) _
  have hP:IsPair (h₄.push { cls:=.type "tuple",data:=.seq #[x,y] }) h₄.objs.size x y:=Heap.get?_push_size _ rfl
  have hs':(h₄.push { cls:=.type "tuple",data:=.seq #[x,y] }).objs.size=h₄.objs.size+1:=Heap.size_push ..
  rw [hsz] at hP hs' ⊢
  exact hQ _ zs hP hs' fun c o c1 c2 c3 c4 e=>Heap.get?_push_of_some _ (hk₄ c o c4 c1 c2 e)
theorem zP5 {n l1 l2:Addr} {i:Nat} {xs ys:Array Value} {Q:Option Value→Shared→Prop} (hh:A.handled=none) (z:ZipSt s.heap n l1 l2 i) (o1:OffZ n l1) (o2:OffZ n l2)
  (hl1:s.heap.IsTuple l1 xs) (hl2:s.heap.IsTuple l2 ys) (hend:xs[i]?=none∨ys[i]?=none)
  (hQ:∀ h',zH9 n s.heap h'→Q none { s with heap:=h' }):wpAny (model prog w) A (pyNext (.ref (n+4))) Q E s:=by
 obtain ⟨f0,f1,hz,hf⟩:=z.zo
 obtain ⟨a,b,hTO⟩:=z.to
 have hTI:=z.ti
 have k1:=z.k1
 have k2:=z.k2
 obtain ⟨p1,p2,p3,p4⟩:=o1
 obtain ⟨q1,q2,q3,q4⟩:=o2
 have hT:s.TypeIs (.ref (n+4)) "zip":=⟨_,hz,rfl⟩
 have d34:n+3≠n+4:=zB6 (by decide)
 have d24:n+2≠n+4:=zB6 (by decide)
 have d14:n+1≠n+4:=zB6 (by decide)
 have d04:n≠n+4:=zB5 (by decide)
 have d13:n+1≠n+3:=zB6 (by decide)
 have d03:n≠n+3:=zB5 (by decide)
 have d01:n≠n+1:=zB5 (by decide)
 have fin:∀ {h':Heap} {e:Addr},(∃ o,h'.get? e=some o∧o.cls=.type "StopIteration")→zH9 n s.heap h' →
   wpAny (model prog w) A (isInstance (.ref e) (.type "StopIteration") >>= fun b=>if b=true then pure none else throw (.ref e)) Q E { s with heap:=h' }:=fun {h' e} he hk=>by
  obtain ⟨o,ho,hc⟩:=he
  exact wpAny_bind (wpAny_isInstance (T:="StopIteration") (b:=true) ⟨o,ho,hc⟩ isSubtype_stop (wpAny_pure (hQ _ hk)))
 unfold pyNext
 refine wpAny_bind (wpAny_attempt (wpAny_callSpecial?_slot (name:=Str.ofString "__next__") hT F.slot_zip_next (wpAny_call_entry F.slot_zip_next hT F.entry_zip_next ?_ (F.args_zip_next_1 _))))
 show wpAny _ _ (field (.ref (n+4)) 2 >>= _) _ _ _
 refine wpAny_bind (wpAny_field hz rfl (x:=.bool false) rfl ?_)
 show wpAny _ _ (field (.ref (n+4)) 3 >>= _) _ _ _
 refine wpAny_bind (wpAny_field hz rfl (x:=.ref (n+2)) rfl ?_)
 refine wpAny_bind (wpAny_seqItems hTI rfl ?_)
 show wpAny _ _ (Builtin.SmallTypes.ownedTupleIsFree (.ref (n+4)) >>= _) _ _ _
 refine wpAny_bind (zE9 hz hf fun fr h₀ g1 hz₀ hs₀=>?_)
 have hTO₀:IsPair h₀ (n+3) a b:=hs₀.extBut _ _ d34 hTO
 have k1₀:=zA6 k1 hs₀ d04
 have k2₀:=zA6 k2 hs₀ d14
 have t1₀:=zB1 hl1 hs₀ p4
 have t2₀:=zB1 hl2 hs₀ q4
 cases fr with
 | true =>
  simp only [if_true]
  refine wpAny_bind (wpAny_rule ?_)
  refine wpAny_bind (wpAny_field hz₀ rfl (x:=.ref (n+3)) rfl ?_)
  refine wpAny_bind (wpAny_setField_rec hz₀ (by simp) fun h₁ hz₁ hs₁=>?_)
  replace hz₁:IsZ h₁ n .ellipsis g1:=hz₁
  refine wpAny_bind ?_
  simp only [List.zipIdx_cons,List.zipIdx_nil,List.forIn_cons,List.forIn_nil]
  refine wpAny_bind (wpAny_bind (wpAny_onRaise ?_))
  show wpAny _ _ (Builtin.SmallTypes.nextOf (.ref n) >>= _) _ _ _
  cases hx:xs[i]? with
  | none =>
   refine wpAny_bind (zF3 hh (zA6 k1₀ hs₁ d04) (zB1 t1₀ hs₁ p4) hx fun h₂ e hs₂ he=>?_)
   obtain ⟨oe,hoe,hce⟩:=he
   have hz₂:IsZ h₂ n .ellipsis g1:=hs₂ _ _ d04.symm hz₁
   have hez:e≠n+4:=fun x=>by subst x; rw [hz₂] at hoe; cases hoe; simp at hce
   exact wpAny_setField_rec hz₂ (by simp) fun h₃ _ hs₃=>fin ⟨oe,hs₃.extBut _ _ hez hoe,hce⟩ fun c o c1 c2 c3 c4 x=>hs₃.extBut _ _ c4 (hs₂ _ _ c1 (hs₁.extBut _ _ c4 (hs₀.extBut _ _ c4 x)))
  | some x =>
   have hy:ys[i]?=none:=by rcases hend with h | h; rw [hx] at h; cases h; exact h
   refine wpAny_bind (zDI (zA6 k1₀ hs₁ d04) (zB1 t1₀ hs₁ p4) hx fun h₂ k1₂ hs₂=>wpAny_pure ?_)
   have hTO₂:IsPair h₂ (n+3) a b:=hs₂.extBut _ _ d03.symm (hs₁.extBut _ _ d34 hTO₀)
   refine wpAny_bind (wpAny_seqItems hTO₂ rfl ?_)
   refine wpAny_bind (wpAny_updateSeq_pair hTO₂ fun h₃ hTO₃ hs₃=>?_)
   refine wpAny_bind (wpAny_letGo (wpAny_pure ?_))
   refine wpAny_bind (wpAny_bind (wpAny_onRaise ?_))
   show wpAny _ _ (Builtin.SmallTypes.nextOf (.ref (n+1)) >>= _) _ _ _
   refine wpAny_bind (zF3 hh (zA6 (zA6 (zA6 k2₀ hs₁ d14) hs₂ d01.symm) hs₃ d13) (zB1 (zB1 (zB1 t2₀ hs₁ q4) hs₂ q1) hs₃ q3) hy fun h₄ e hs₄ he=>?_)
   obtain ⟨oe,hoe,hce⟩:=he
   have hz₄:IsZ h₄ n .ellipsis g1:=hs₄ _ _ d14.symm (hs₃.extBut _ _ d34.symm (hs₂.extBut _ _ d04.symm hz₁))
   have hez:e≠n+4:=fun x=>by subst x; rw [hz₄] at hoe; cases hoe; simp at hce
   exact wpAny_setField_rec hz₄ (by simp) fun h₅ _ hs₅=>fin ⟨oe,hs₅.extBut _ _ hez hoe,hce⟩ fun c o c1 c2 c3 c4 x=>hs₅.extBut _ _ c4 (hs₄ _ _ c2 (hs₃.extBut _ _ c3 (hs₂.extBut _ _ c1 (hs₁.extBut _ _ c4 (hs₀.extBut _ _ c4 x)))))
 | false =>
  simp only [Bool.false_eq_true,if_false]
  refine wpAny_bind ?_
  rw [← Array.forIn_toList]
  simp only [List.forIn_cons,List.forIn_nil]
  refine wpAny_bind (wpAny_bind (wpAny_holding ?_))
  show wpAny _ _ (Builtin.SmallTypes.nextOf (.ref n) >>= _) _ _ _
  cases hx:xs[i]? with
  | none =>
   refine wpAny_bind (zF3 hh k1₀ t1₀ hx fun h₂ e hs₂ he=>?_)
   exact fin he fun c o c1 c2 c3 c4 x=>hs₂ _ _ c1 (hs₀.extBut _ _ c4 x)
  | some x =>
   have hy:ys[i]?=none:=by rcases hend with h | h; rw [hx] at h; cases h; exact h
   refine wpAny_bind (zDI k1₀ t1₀ hx fun h₂ k1₂ hs₂=>wpAny_pure (wpAny_pure ?_))
   refine wpAny_bind (wpAny_bind (wpAny_holding ?_))
   show wpAny _ _ (Builtin.SmallTypes.nextOf (.ref (n+1)) >>= _) _ _ _
   refine wpAny_bind (zF3 hh (zA6 k2₀ hs₂ d01.symm) (zB1 t2₀ hs₂ q1) hy fun h₄ e hs₄ he=>?_)
   exact fin he fun c o c1 c2 c3 c4 x=>hs₄ _ _ c2 (hs₂.extBut _ _ c1 (hs₀.extBut _ _ c4 x))
end
end L2
namespace L2
open PySem PySem.Spec PyProof.Rows
section
variable {X:Cx} {pins:List (Addr × Obj)} {σ:St} {H:Hp} {s:Shared} {h':Heap}
theorem Inv.turnedL {t':Nat} {fp:List Addr} (I:Inv X pins σ H s) (hf:∀ b∈fp,FpOk X pins H b) (k:∀ b o,b∉fp→s.heap.get? b=some o→h'.get? b=some o):Inv X pins σ H { s with heap:=h',toks:=t' }:=by
 have nit:∀ b u,H b=some u→b∉fp:=fun b u e z=>by rw [(hf b z).1] at e; cases e
 refine I.step (g':=s.gens) (d':=s.drawn) (ch:=fp) (fun b hb=>?_) (fun b o _ _ hc e _=>k b o hc e) (fun b o _ _ hc e _=>⟨o.slots,k b o hc e⟩) (fun _ _ _ _ n=>n)
  (fun b o hc e=>⟨o,k b o hc e⟩) (fun _ _ e=>e) (fun _ _ _ e=>e) (fun b ps e=>⟨#[],by rw [e]; simp⟩) (fun m hm=>?_) (fun b u e=>?_) I.bare
 ·obtain ⟨f0,f1,f2,f3,f4,f5⟩:=hf b hb
  exact ⟨f3,f1,f4,f5⟩
 ·obtain ⟨o,es,ep,ho,r⟩:=hm
  exact ⟨o,es,ep,k _ o (fun z=>(hf _ z).2.1 rfl) ho,r⟩
 ·refine (I.hok b u e).stay (fun c v hc q=>k c v ?_ q) (fun _ q=>q) fun _ _ q=>q
  rcases hc with z | z
  ·rw [z]; exact nit b u e
  ·exact nit c _ z
theorem FpOk.off {a:Addr} {fp:List Addr} {xs:List V} (I:Inv X pins σ H s) (hf:∀ b∈fp,FpOk X pins H b) (h:SqT X.K H a xs):a∉fp:=fun z=>by
 obtain ⟨f0,f1,f2,f3,f4,f5⟩:=hf a z
 rcases h with h | ⟨o,its,n,hk,_⟩
 ·rcases h with h | ⟨o,h⟩
  ·rw [f0] at h; cases h
  ·rw [f0] at h; cases h
 ·have hb:=I.ok.mod.kin a o hk
  rcases f3 with f3 | f3
  ·exact I.ok.noex a o hb f3
  ·exact absurd (Nat.lt_of_lt_of_le (Heap.lt_size hb) I.ok.bsz) (Nat.not_lt.mpr f3)
end
section
variable {prog:Program} {w:World} {A:Around} {E:Value→Shared→Prop} {s:Shared}
theorem zSL {n l1 l2 : Addr} {i : Nat} {tg : Expr} {u : Value} {Q : Unit → Shared → Prop} (z : ZipSt s.heap n l1 l2 i) (h : ∀ h', ZipSt h' n l1 l2 i → Heap.SameBut (n + 4) s.heap h' → Q () { s with heap := h' }) :
    wpAny (model prog w) A (letOwnedTupleGo tg (.ref (n + 4)) u) Q E s := by
  have hz := h s.heap z (zCK _ _)
  obtain ⟨f0, f1, e, hf⟩ := id z.zo
  unfold letOwnedTupleGo
  cases tg <;> first
    | exact wpAny_pure hz
    | (cases u <;> first
        | exact wpAny_pure hz
        | (refine wpAny_bind (wpAny_load e ?_)
           dsimp only
           split
           · refine wpAny_bind (wpAny_rule ?_)
             show wpAny _ _ (setField (.ref (n + 4)) 0 .none) Q E s
             refine wpAny_setField_rec e (by simp) fun h' hz' hs' => h h' ?_ hs'
             obtain ⟨a, b, hTO⟩ := z.to
             exact ⟨⟨.none, f1, hz', .inl rfl⟩, hs'.extBut _ _ (zB6 (by decide)) z.ti, ⟨a, b, hs'.extBut _ _ (zB6 (by decide)) hTO⟩, zA6 z.k1 hs' (zB5 (by decide)), zA6 z.k2 hs' (zB6 (by decide))⟩
           · exact wpAny_pure hz))
theorem zI4 {n l1 l2:Addr} {i:Nat} {Q:Value→Shared→Prop} (z:ZipSt s.heap n l1 l2 i) (h:Q (.ref (n+4)) s):wpAny (model prog w) A (pyIter (.ref (n+4))) Q E s:=by
 obtain ⟨f0,f1,e,hf⟩:=z.zo
 have hT:s.TypeIs (.ref (n+4)) "zip":=⟨_,e,rfl⟩
 refine wpAny_pyIter_slot hT F.slot_zip_iter (wpAny_call_entry F.slot_zip_iter hT F.entry_zip_iter ?_ (F.args_zip_iter_1 _))
 show wpAny _ _ (ret (.ref (n+4))) _ _ s
 exact wpAny_pure ⟨_,rfl,"zip",_,hT,F.slot_zip_next.lookup,h⟩
noncomputable abbrev zH1 (h:Heap) (l1:Addr):Heap:=h.push { cls:=.type "tuple_iterator",data:=.fields #[.ref l1,.int 0 0] }
noncomputable abbrev zH2 (h:Heap) (l1 l2:Addr):Heap:=(zH1 h l1).push { cls:=.type "tuple_iterator",data:=.fields #[.ref l2,.int 0 0] }
noncomputable abbrev zH3 (h:Heap) (l1 l2:Addr):Heap:=(zH2 h l1 l2).push { cls:=.type "tuple",data:=.seq #[.ref h.objs.size,.ref (zH1 h l1).objs.size] }
noncomputable abbrev zH4 (h:Heap) (l1 l2:Addr):Heap:=(zH3 h l1 l2).push { cls:=.type "tuple",data:=.seq #[.none,.none] }
noncomputable abbrev zH5 (h:Heap) (l1 l2:Addr):Heap:=(zH4 h l1 l2).push { cls:=.type "zip",data:=.fields #[.none,.bool false,.bool false,.ref (zH2 h l1 l2).objs.size,.ref (zH3 h l1 l2).objs.size] }
theorem zJ8 (l1 l2:Addr) (xs ys:Array Value) :
  Meets (Builtin.«zip.__new__» ⟨[.type "zip",.ref l1,.ref l2],[]⟩) (fun _ R s=>s.heap.IsTuple l1 xs∧s.heap.IsTuple l2 ys ∧
   R (.ok (.ret (.ref (zH4 s.heap l1 l2).objs.size))) { s with heap:=zH5 s.heap l1 l2 }) :=
 .of_wp fun prog w A R s h=>by
  obtain ⟨hp,g,d,tk,os⟩:=s; obtain ⟨hl1,hl2,h⟩:=h
  have hsub:=sub_zip
  have hL1:Heap.IsTuple (Shared.heap ⟨hp,g,d,tk,os⟩) l1 xs:=hl1
  have hL2:Heap.IsTuple (Shared.heap ⟨hp.push { cls:=.type "tuple_iterator",data:=.fields #[.ref l1,.int 0 0] },g,d,tk,os⟩) l2 ys:=zOX hl2 fun o e=>Heap.get?_push_of_some _ e
  wp_walk using wpAny_pyIter_tuple hL1,wpAny_pyIter_tuple hL2
  exact ⟨_,rfl,h⟩
theorem zLJ {l1 l2:Addr} {xs ys:Array Value} {Q:Value→Shared→Prop} (hl1:s.heap.IsTuple l1 xs) (hl2:s.heap.IsTuple l2 ys)
  (h:∀ h',ZipSt h' s.heap.objs.size l1 l2 0→h'.objs.size=s.heap.objs.size+5→(∀ c o,s.heap.get? c=some o→h'.get? c=some o)→Q (.ref (s.heap.objs.size+4)) { s with heap:=h' }) :
  wpAny (model prog w) A (call (.type "zip") [.ref l1,.ref l2]) Q E s:=by
 refine callType_new F.called_zip (by decide) (F.typeCall_zip_2 _ _) (F.newCall_zip_2 _ _) (fun obj=>F.args_object_init_3 obj _ _) F.entry_zip_new
  (zJ8 l1 l2 xs ys) ⟨hl1,hl2,?_⟩
 have z1:(zH1 s.heap l1).objs.size=s.heap.objs.size+1:=Heap.size_push ..
 have z2:(zH2 s.heap l1 l2).objs.size=s.heap.objs.size+2:=by rw [Heap.size_push,z1]
 have z3:(zH3 s.heap l1 l2).objs.size=s.heap.objs.size+3:=by rw [Heap.size_push,z2]
 have z4:(zH4 s.heap l1 l2).objs.size=s.heap.objs.size+4:=by rw [Heap.size_push,z3]
 have z5:(zH5 s.heap l1 l2).objs.size=s.heap.objs.size+5:=by rw [Heap.size_push,z4]
 have g5:(zH5 s.heap l1 l2).get? (zH4 s.heap l1 l2).objs.size=some _:=Heap.get?_push_size _ rfl
 have g4:(zH5 s.heap l1 l2).get? (zH3 s.heap l1 l2).objs.size=some _:=Heap.get?_push_of_some _ (Heap.get?_push_size _ rfl)
 have g3:(zH5 s.heap l1 l2).get? (zH2 s.heap l1 l2).objs.size=some _:=Heap.get?_push_of_some _ (Heap.get?_push_of_some _ (Heap.get?_push_size _ rfl))
 have g2:(zH5 s.heap l1 l2).get? (zH1 s.heap l1).objs.size=some _:=Heap.get?_push_of_some _ (Heap.get?_push_of_some _ (Heap.get?_push_of_some _ (Heap.get?_push_size _ rfl)))
 have g1:(zH5 s.heap l1 l2).get? s.heap.objs.size=some _:=Heap.get?_push_of_some _ (Heap.get?_push_of_some _ (Heap.get?_push_of_some _ (Heap.get?_push_of_some _ (Heap.get?_push_size _ rfl))))
 show _∧_
 rw [z2,z3,z4] at g5
 rw [z1,z2] at g3
 rw [z3] at g4
 rw [z1] at g2
 rw [z4]
 exact ⟨⟨_,g5,rfl⟩,h _ ⟨⟨.none,false,g5,.inl rfl⟩,g3,⟨_,_,g4⟩,⟨_,g1,rfl,rfl⟩,⟨_,g2,rfl,rfl⟩⟩ z5 fun c o x =>
  Heap.get?_push_of_some _ (Heap.get?_push_of_some _ (Heap.get?_push_of_some _ (Heap.get?_push_of_some _ (Heap.get?_push_of_some _ x))))⟩
end
noncomputable def Itz (K : PySem.W.Frag) (a b : Addr) : It :=
  ⟨fun i H => ∃ xs ys x y, SqT K H a xs ∧ SqT K H b ys ∧ xs[i]? = some x ∧ ys[i]? = some y,
   fun i H v H' => ∃ p x y, v = .ref p ∧ H p = none ∧ H' = upd H p (.tup [x, y]) ∧ (∀ xs, SqT K H a xs → xs[i]? = some x) ∧ (∀ ys, SqT K H b ys → ys[i]? = some y),
   fun i H => ∃ xs ys, SqT K H a xs ∧ SqT K H b ys ∧ (xs.length ≤ i ∨ ys.length ≤ i)⟩
noncomputable abbrev fpZ (n:Addr):List Addr:=[n,n+1,n+2,n+3,n+4]
theorem lt5 {n c S:Nat} (h:c∈[n,n+1,n+2,n+3,n+4]) (hlt:n+4<S):c<S:=by
 simp only [List.mem_cons,List.not_mem_nil,or_false] at h
 omega
theorem ge5 {n c:Nat} (h:c∈[n,n+1,n+2,n+3,n+4]):n≤c:=by
 simp only [List.mem_cons,List.not_mem_nil,or_false] at h
 omega
theorem offZ {n a:Addr} (h:a∉fpZ n):OffZ n a:=by
 simp only [fpZ,List.mem_cons,List.not_mem_nil,or_false,not_or] at h
 exact ⟨h.1,h.2.1,h.2.2.2.1,h.2.2.2.2⟩
theorem zNH {P:Program} {w:World} {K:PySem.W.Frag} {tg:Expr} (a b n:Addr):Turn P w K tg (Itz K a b) (fpZ n) (n+4) (fun i h=>ZipSt h n a b i) where
 mem:=by simp
 obj:=fun i h st c hc=>by
  obtain ⟨f0,f1,e,_⟩:=st.zo
  obtain ⟨u,v,e3⟩:=st.to
  obtain ⟨o0,e0,_,d0⟩:=st.k1
  obtain ⟨o1,e1,_,d1⟩:=st.k2
  simp only [fpZ,List.mem_cons,List.not_mem_nil,or_false] at hc
  rcases hc with rfl | rfl | rfl | rfl | rfl
  ·exact ⟨_,e0,fun v z=>by rw [d0] at z; cases z⟩
  ·exact ⟨_,e1,fun v z=>by rw [d1] at z; cases z⟩
  ·exact ⟨_,st.ti,fun v z=>by have z':Data.seq _ _=Data.cell v:=z; cases z'⟩
  ·exact ⟨_,e3,fun v z=>by have z':Data.seq _ _=Data.cell v:=z; cases z'⟩
  ·exact ⟨_,e,fun v z=>by have z':Data.fields _=Data.cell v:=z; cases z'⟩
 keep:=fun i h h' st k=>st.keep k
 item:=by
  intro X hP hw hK hc i pins s σ H E I hf st hg
  subst hP hw hK
  obtain ⟨xs,ys,x,y,hq1,hq2,hx,hy⟩:=hg
  obtain ⟨its1,rv1,p1,hz1⟩:=I.tuple hq1
  obtain ⟨its2,rv2,p2,hz2⟩:=I.tuple hq2
  obtain ⟨u1,hu1,ru1⟩:=rv1.get hx
  obtain ⟨u2,hu2,ru2⟩:=rv2.get hy
  refine zNG st (offZ (FpOk.off I hf hq1)) (offZ (FpOk.off I hf hq2)) (show s.heap.IsTuple a its1.toArray from p1) (show s.heap.IsTuple b its2.toArray from p2) (x:=u1) (y:=u2) (by simpa using hu1) (by simpa using hu2) fun h' st' hp hsz hk=>?_
  refine ⟨_,rfl,zSL (s:={ s with heap:=h' }) st' fun h2 st2 hs2=>?_⟩
  obtain ⟨f0,f1,e4,_⟩:=id st.zo
  have hlt:∀ c∈fpZ n,c<s.heap.objs.size:=fun c hc=>lt5 hc (Heap.lt_size e4)
  have nin:s.heap.objs.size∉fpZ n:=fun z=>Nat.lt_irrefl _ (hlt _ z)
  have I1:Inv X pins σ (upd H s.heap.objs.size (.tup [x,y])) { s with heap:=s.heap.push { cls:=.type "tuple",data:=.seq #[u1,u2] } } :=
   I.laid (t':=s.toks) (fun b u e=>Heap.get?_push_of_some _ e) (Nat.le_refl _) ⟨by show 2≤sizeLine; decide,[u1,u2],.cons ru1 (.cons ru2 .nil),⟨_,Heap.get?_push_size _ rfl,rfl,rfl,0,rfl⟩⟩
  have hf1:∀ c∈fpZ n,FpOk X pins (upd H s.heap.objs.size (.tup [x,y])) c:=fun c hc=>⟨by rw [zAF (Nat.ne_of_lt (hlt c hc))]; exact (hf c hc).1,(hf c hc).2⟩
  have n4:n+4∈fpZ n:=by simp
  have I2:Inv X pins σ (upd H s.heap.objs.size (.tup [x,y])) { s with heap:=h2 }:=I1.turnedL (t':=s.toks) hf1 fun c o hc e=>by
   have c4:c≠n+4:=fun z=>hc (by rw [z]; exact n4)
   refine hs2.extBut _ _ c4 ?_
   by_cases hcs:c=s.heap.objs.size
   ·subst hcs
    rw [Heap.get?_push_size _ rfl] at e
    cases e
    exact hp
   ·have e':s.heap.get? c=some o:=by
     rw [Heap.get?_push_ne _ _ _ hcs] at e
     exact e
    obtain ⟨q0,q1,q3,q4⟩:=offZ hc
    exact hk c o q0 q1 q3 q4 e'
  exact ⟨.ref s.heap.objs.size,_,I2,rfl,⟨_,x,y,rfl,I.fresh,rfl,fun zs hz=>by rw [I.tuple_inj hz hq1]; exact hx,fun zs hz=>by rw [I.tuple_inj hz hq2]; exact hy⟩,st2,fun c hc=>(hf1 c hc).1⟩
 done:=by
  intro X hP hw hK hc i pins s σ H E I hf st hg
  subst hP hw hK
  obtain ⟨xs,ys,hq1,hq2,hx⟩:=hg
  obtain ⟨its1,rv1,p1,hz1⟩:=I.tuple hq1
  obtain ⟨its2,rv2,p2,hz2⟩:=I.tuple hq2
  have l1:=rv1.length
  have l2:=rv2.length
  refine zP5 (I.ok.hd hc) st (offZ (FpOk.off I hf hq1)) (offZ (FpOk.off I hf hq2)) (show s.heap.IsTuple a its1.toArray from p1) (show s.heap.IsTuple b its2.toArray from p2) (hx.imp (fun h=>by simp; omega) (fun h=>by simp; omega)) fun h' hk=>⟨rfl,I.turnedL (t':=s.toks) hf fun c o hc e=>?_⟩
  obtain ⟨q0,q1,q3,q4⟩:=offZ hc
  exact hk c o q0 q1 q3 q4 e
 self:=fun _ _ _ _ _ st h=>zI4 st h
section
variable {X:Cx} {tg:Expr}
noncomputable def iZip (K:PySem.W.Frag) (ta:TA):TI:=fun σ H R=>ta σ H fun vs H1=>∃ a b,vs=[.ref a,.ref b]∧(∃ xs,SqT K H1 a xs)∧(∃ ys,SqT K H1 b ys)∧R (Itz K a b) H1
theorem zSM {a b:Expr} {ta:TA} {p pos:Pos} (hg:Gl X "zip") (hm:X.mg "zip"=none) (ha:PA X [a,b] ta) (hs:starEach [a,b] X.env=[(false,eval a X.env),(false,eval b X.env)]:=by rfl) (hs2:starEach [b] X.env=[(false,eval b X.env)]:=by rfl) :
  PI X tg (.Call (.Name "zip" p) [a,b] [] pos) (iZip X.K ta):=by
 intro pins s σ H R I h
 refine Call_ (zD6 I hg hm (u:=.type "zip") (by decide +kernel) (PyProof.Rows.callWith_type1 (thn (ha pos pins s σ H _ I h) fun us s1 ⟨vs,H1,I1,r1,q1⟩=>?_) (by rw [hs,hs2]) (by rw [hs2]; rfl)))
 obtain ⟨c,d,e,⟨xs,hq1⟩,⟨ys,hq2⟩,q⟩:=q1
 subst e
 cases r1 with
 | cons r rr =>
  cases rr with
  | cons r' rr =>
   cases rr
   cases r
   cases r'
   obtain ⟨its1,rv1,p1,hz1⟩:=I1.tuple hq1
   obtain ⟨its2,rv2,p2,hz2⟩:=I1.tuple hq2
   refine zLJ (show s1.heap.IsTuple c its1.toArray from p1) (show s1.heap.IsTuple d its2.toArray from p2) fun h' st hsz k=>?_
   refine zI4 (s:={ s1 with heap:=h' }) st ?_
   refine ⟨s1.heap.objs.size+4,fpZ s1.heap.objs.size,_,_,H1,rfl,I1.kept (t':=s1.toks) k,zNH c d _,st,fun b hb=>?_,q⟩
   exact I1.fpOk (ge5 hb) (I1.hok.fresh (ge5 hb))
end
end L2
namespace L2
open PySem PySem.Spec PyProof.Rows
mutual
inductive DV (K:PySem.W.Frag) (H:Hp):V→PyData→Prop
 | non:DV K H .non .none
 | bl (b:Bool):DV K H (.bl b) (.bool b)
 | int (i:Int):DV K H (.int i) (.int i)
 | str (x:Str):PyData.canLay0 (.str x)=true→DV K H (.str x) (.str x)
 | tup {a:Addr} {xs:List V} {ds:List PyData}:SqT K H a xs→DVs K H xs ds→DV K H (.ref a) (.tuple ds)
 | lst {a:Addr} {xs:List V} {ds:List PyData}:SqL K H a xs→DVs K H xs ds→DV K H (.ref a) (.list ds)
inductive DVs (K:PySem.W.Frag) (H:Hp):List V→List PyData→Prop
 | nil:DVs K H [] []
 | cons {x:V} {d:PyData} {xs:List V} {ds:List PyData}:DV K H x d→DVs K H xs ds→DVs K H (x::xs) (d::ds)
end
mutual
theorem DV.can {K:PySem.W.Frag} {H:Hp}:∀ {v:V} {d:PyData},DV K H v d→d.canLay0=true
 | _,_,.non=>rfl
 | _,_,.bl _=>rfl
 | _,_,.int _=>rfl
 | _,_,.str _ h=>h
 | _,_,.tup _ h=>by rw [PyData.canLay0]; exact DVs.can h
 | _,_,.lst _ h=>by rw [PyData.canLay0]; exact DVs.can h
theorem DVs.can {K:PySem.W.Frag} {H:Hp}:∀ {v:List V} {d:List PyData},DVs K H v d→PyData.canLayAll0 d=true
 | _,_,.nil=>rfl
 | _,_,.cons h t=>by rw [PyData.canLayAll0,DV.can h,DVs.can t]; rfl
end
section
variable {X:Cx} {pins:List (Addr × Obj)} {σ:St} {H:Hp} {s:Shared}
mutual
theorem DV.reads (I:Inv X pins σ H s):∀ {v:V} {d:PyData},DV X.K H v d→∀ {u:Value},RelV v u→∃ as,Reads s.heap u d as
 | _,_,.non,_,r=>by cases r; exact ⟨_,.none⟩
 | _,_,.bl b,_,r=>by cases r; exact ⟨_,.bool b⟩
 | _,_,.int i,_,r=>by obtain ⟨t,rfl⟩:=r; exact ⟨_,.int i t⟩
 | _,_,.str x _,_,r=>by obtain ⟨t,rfl⟩:=r; exact ⟨_,.str x t⟩
 | _,_,.tup hq h,_,r=>by
  cases r
  obtain ⟨its,rv,⟨o,ho,hc,n,hd⟩,hz⟩:=I.tuple hq
  obtain ⟨as,ra⟩:=DVs.reads I h rv
  exact ⟨as,.tuple ho hc hd (by simpa using ra)⟩
 | _,_,.lst hq h,_,r=>by
  cases r
  obtain ⟨its,rv,pl,hz⟩:=I.list hq
  obtain ⟨o,ho,hc,n,hd⟩:=pl.isList
  obtain ⟨as,ra⟩:=DVs.reads I h rv
  exact ⟨_,.list ho hc hd (by simpa using ra)⟩
theorem DVs.reads (I:Inv X pins σ H s):∀ {v:List V} {d:List PyData},DVs X.K H v d→∀ {u:List Value},Vals v u→∃ as,ReadsAll s.heap u d as
 | _,_,.nil,_,r=>by cases r; exact ⟨_,.nil⟩
 | _,_,.cons h t,_,r=>by
  cases r with
  | cons r1 r2 =>
   obtain ⟨as,ra⟩:=DV.reads I h r1
   obtain ⟨bs,rb⟩:=DVs.reads I t r2
   exact ⟨_,.cons ra rb⟩
end
noncomputable def rEqD (K:PySem.W.Frag) (neg:Bool):R2:=fun x y H Q=>∃ d e,DV K H x d∧DV K H y e∧min d.depth e.depth≤60∧Q (.bl (if neg then !PyData.eqv d e else PyData.eqv d e)) H
theorem zTL (hu:X.A.units+64<cLine):OpR X (compareOp .Eq) (rEqD X.K false):=by
 intro pins s σ H x y v u Q I rx ry h
 obtain ⟨d,e,hd,he,hm,q⟩:=h
 obtain ⟨as,ra⟩:=hd.reads I rx
 obtain ⟨bs,rb⟩:=he.reads I ry
 exact SeqAt.compareEq_reads ra rb hd.can he.can (by omega) ⟨.bl _,H,I,rfl,q⟩
theorem zOY (hu:X.A.units+64<cLine):OpR X (compareOp .NotEq) (rEqD X.K true):=by
 intro pins s σ H x y v u Q I rx ry h
 obtain ⟨d,e,hd,he,hm,q⟩:=h
 obtain ⟨as,ra⟩:=hd.reads I rx
 obtain ⟨bs,rb⟩:=he.reads I ry
 exact SeqAt.compareNe_reads ra rb hd.can he.can (by omega) ⟨.bl _,H,I,rfl,q⟩
open Classical in
noncomputable def eqC (h:Heap) (e:PyData) (y:Value):Bool:=if z:∃ (d:PyData) (as:List Addr),Reads h y d as then PyData.eqv z.choose e else false
theorem zG9 {h:Heap} {e d:PyData} {y:Value} {as:List Addr} (r:Reads h y d as):eqC h e y=PyData.eqv d e:=by
 have z:∃ (d:PyData) (as:List Addr),Reads h y d as:=⟨d,as,r⟩
 unfold eqC
 rw [dif_pos z]
 obtain ⟨as',r'⟩:=z.choose_spec
 rw [(Reads.unique r _ _ r').1]
theorem zBN {h:Heap}:∀ {us:List Value} {ds:List PyData} {as:List Addr},ReadsAll h us ds as→∀ u∈us,∃ d∈ds,∃ bs,Reads h u d bs
 | _,_,_,.nil,u,hu=>by cases hu
 | _,_,_,.cons r t,u,hu=>by
  rcases List.mem_cons.mp hu with rfl | hu
  ·exact ⟨_,List.mem_cons_self,_,r⟩
  ·obtain ⟨d,hd,bs,q⟩:=zBN t u hu
   exact ⟨d,List.mem_cons_of_mem _ hd,bs,q⟩
theorem zBO {h:Heap} {e:PyData}:∀ {us:List Value} {ds:List PyData} {as:List Addr},ReadsAll h us ds as→us.any (eqC h e)=ds.any fun d=>PyData.eqv d e
 | _,_,_,.nil=>rfl
 | _,_,_,.cons r t=>by rw [List.any_cons,List.any_cons,zG9 r,zBO t]
theorem zEC:∀ {ds:List PyData},PyData.canLayAll0 ds=true→∀ d∈ds,d.canLay0=true
 | [],_,d,hd=>by cases hd
 | x::ds,h,d,hd=>by
  rw [PyData.canLayAll0,Bool.and_eq_true] at h
  rcases List.mem_cons.mp hd with rfl | hd
  ·exact h.1
  ·exact zEC h.2 d hd
noncomputable def rInD (K:PySem.W.Frag) (neg:Bool):R2:=fun x y H Q=>∃ p xs ds e,y=.ref p∧(SqL K H p xs∨SqT K H p xs)∧DVs K H xs ds∧DV K H x e∧e.depth≤60 ∧
 Q (.bl (if neg then !(ds.any fun d=>PyData.eqv d e) else ds.any fun d=>PyData.eqv d e)) H
theorem zOZ (hu : X.A.units + 64 < cLine) : OpR X (compareOp .In) (rInD X.K false) := by
  intro pins s σ H x y v u Q I rx ry h
  obtain ⟨p, xs, ds, e, rfl, hq, hds, hx, hm, q⟩ := h
  cases ry
  obtain ⟨bs, rb⟩ := hx.reads I rx
  have hu1 : X.A.in1.units + 61 < cLine := by have : X.A.in1.units ≤ X.A.units + 1 := by first | exact Nat.le_refl _ | simp [Around.in1]
                                              omega
  rcases hq with hq | hq
  · obtain ⟨its, r, pl, hz⟩ := I.list hq
    obtain ⟨as, ra⟩ := hds.reads I r
    refine SeqAt.in_listAt (eqC s.heap e) pl.isList (fun w hw => ?_) ⟨.bl _, H, I, rfl, ?_⟩
    · obtain ⟨d, hd, cs, rd⟩ := zBN ra w (by simpa using hw)
      rw [zG9 rd]
      exact SeqAt.eqAt_reads d e _ s w v cs bs rd rb (zEC hds.can d hd) hx.can (by omega)
    · rw [show its.toArray.any (eqC s.heap e) = its.any (eqC s.heap e) by simp, zBO ra]
      exact q
  · obtain ⟨its, r, pl, hz⟩ := I.tuple hq
    obtain ⟨as, ra⟩ := hds.reads I r
    refine SeqAt.in_tupleAt (eqC s.heap e) pl (fun w hw => ?_) ⟨.bl _, H, I, rfl, ?_⟩
    · obtain ⟨d, hd, cs, rd⟩ := zBN ra w (by simpa using hw)
      rw [zG9 rd]
      exact SeqAt.eqAt_reads d e _ s w v cs bs rd rb (zEC hds.can d hd) hx.can (by omega)
    · rw [show its.toArray.any (eqC s.heap e) = its.any (eqC s.heap e) by simp, zBO ra]
      exact q
theorem zLK (hu : X.A.units + 64 < cLine) : OpR X (compareOp .NotIn) (rInD X.K true) := by
  intro pins s σ H x y v u Q I rx ry h
  obtain ⟨p, xs, ds, e, rfl, hq, hds, hx, hm, q⟩ := h
  cases ry
  obtain ⟨bs, rb⟩ := hx.reads I rx
  have hu1 : X.A.in1.units + 61 < cLine := by have : X.A.in1.units ≤ X.A.units + 1 := by first | exact Nat.le_refl _ | simp [Around.in1]
                                              omega
  rcases hq with hq | hq
  · obtain ⟨its, r, pl, hz⟩ := I.list hq
    obtain ⟨as, ra⟩ := hds.reads I r
    refine SeqAt.notIn_listAt (eqC s.heap e) pl.isList (fun w hw => ?_) ⟨.bl _, H, I, rfl, ?_⟩
    · obtain ⟨d, hd, cs, rd⟩ := zBN ra w (by simpa using hw)
      rw [zG9 rd]
      exact SeqAt.eqAt_reads d e _ s w v cs bs rd rb (zEC hds.can d hd) hx.can (by omega)
    · rw [show its.toArray.any (eqC s.heap e) = its.any (eqC s.heap e) by simp, zBO ra]
      exact q
  · obtain ⟨its, r, pl, hz⟩ := I.tuple hq
    obtain ⟨as, ra⟩ := hds.reads I r
    refine SeqAt.notIn_tupleAt (eqC s.heap e) pl (fun w hw => ?_) ⟨.bl _, H, I, rfl, ?_⟩
    · obtain ⟨d, hd, cs, rd⟩ := zBN ra w (by simpa using hw)
      rw [zG9 rd]
      exact SeqAt.eqAt_reads d e _ s w v cs bs rd rb (zEC hds.can d hd) hx.can (by omega)
    · rw [show its.toArray.any (eqC s.heap e) = its.any (eqC s.heap e) by simp, zBO ra]
      exact q
theorem DVs.ints {K:PySem.W.Frag} {H:Hp}:∀ ns:List Int,DVs K H (ns.map V.int) (ns.map PyData.int)
 | []=>.nil
 | n::ns=>.cons (.int n) (DVs.ints ns)
theorem zI5 (x:Int):∀ ns:List Int,((ns.map PyData.int).any fun d=>PyData.eqv d (.int x))=decide (x∈ns)
 | []=>rfl
 | n::ns=>by
  rw [List.map_cons,List.any_cons,zI5 x ns,PyData.eqv]
  by_cases h:n=x
  ·subst h; simp
  ·have h':¬ x=n:=fun z=>h z.symm
   simp [h,h']
end
end L2
namespace L2
open PySem PySem.Spec PyProof.Rows
noncomputable def Gr (H H':Hp):Prop:=∀ b u,H b=some u→H' b=some u
theorem Gr.trans {H H1 H2:Hp} (g:Gr H H1) (g':Gr H1 H2):Gr H H2:=fun b u e=>g' b u (g b u e)
theorem Gr.new {H:Hp} {p:Addr} {o:HO} (hp:H p=none):Gr H (upd H p o):=fun b u e=>by rw [zAF (zAV e hp)]; exact e
theorem SqT.gr {K:PySem.W.Frag} {H H':Hp} {a:Addr} {xs:List V} (h:SqT K H a xs) (g:Gr H H'):SqT K H' a xs:=by
 rcases h with h | h
 ·rcases h with h | ⟨o,h⟩
  ·exact .inl (.inl (g _ _ h))
  ·exact .inl (.inr ⟨o,g _ _ h⟩)
 ·exact .inr h
section
variable {prog:Program} {w:World} {A:Around} {E:Value→Shared→Prop} {s:Shared}
theorem zC2 {t sl:Addr} {items:Array Value} {vl vu:Value} {lo hi:Option Int} {Q:Value→Shared→Prop} (ht:IsTup s.heap t items) (hs:s.heap.IsSliceOf sl vl vu .none) (pl:IsPart vl lo) (pu:IsPart vu hi)
  (hw:HT.sIx items.size 0 lo=0∧HT.sIx items.size items.size hi=items.size) (h:Q (.ref t) s):wpAny (model prog w) A (getItem (.ref t) (.ref sl)) Q E s:=by
 obtain ⟨os,hos,hcs,hds⟩:=id hs
 have hTs:s.TypeIs (.ref sl) "slice":=⟨os,hos,hcs⟩
 unfold getItem
 try with_reducible refine wpAny_holding ?_
 first | refine wpAny_bind (wpAny_pure ?_) | skip
 refine wpAny_bind (wpAny_sequenceKey ht.typeIs (by decide) ?_)
 refine wpAny_bind (wpAny_callSpecial?_slot (name:=Str.ofString "__getitem__") ht.typeIs PyProof.Rows.slot_tuple_getitem
  (wpAny_call_entry PyProof.Rows.slot_tuple_getitem ht.typeIs entry_tuple_getitem ?_ (args_tuple_getitem _ _)))
 show wpAny _ _ (Builtin.Tuple.tupleItemsOf (.ref t) >>= _) _ _ s
 refine wpAny_bind (tupleItemsOf_ ht ?_)
 refine wpAny_bind (wpAny_typeOf hTs ?_)
 rw [if_pos (by decide)]
 refine wpAny_bind (HT.sliceApplied_gen hs pl pu ?_)
 rw [hw.1,hw.2]
 have e:(((0:Nat):Int) == 0 && (1:Int) == 1 && (items.size - 0) == items.size)=true:=by simp
 show wpAny _ _ (if (((0:Nat):Int) == 0 && (1:Int) == 1 && (items.size - 0) == items.size)=true then _ else _) _ _ s
 rw [if_pos e]
 show wpAny _ _ (Builtin.Tuple.tupleIsExact (.ref t) >>= _) _ _ s
 unfold Builtin.Tuple.tupleIsExact
 refine wpAny_bind (wpAny_bind (wpAny_typeOf ht.typeIs (wpAny_pure ?_)))
 show wpAny _ _ (if (Value.type "tuple" == Value.type "tuple")=true then _ else _) _ _ s
 rw [if_pos (by decide)]
 exact wpAny_bind (wpAny_rule (wpAny_pure ⟨_,rfl,wpAny_pure h⟩))
theorem zP6 {t b:Addr} {vs ws:List Value} {Q:Value→Shared→Prop} (ht:IsTup s.heap t vs.toArray) (hb:IsTup s.heap b ws.toArray)
  (h0:vs=[]→Q (.ref b) s) (h1:vs≠[]→ws=[]→Q (.ref t) s) (h2:vs≠[]→ws≠[]→Q (.ref s.heap.objs.size) { s with heap:=s.heap.push { cls:=.type "tuple",data:=.seq (vs++ws).toArray } })
  (hsz:vs.length+ws.length≤sizeLine):wpAny (model prog w) A (binaryOp .Add (.ref t) (.ref b)) Q E s:=by
 by_cases hv:vs=[]
 ·obtain ⟨⟨cls,dd,data,sl⟩,ho,hc,n,hd⟩:=id ht
  obtain ⟨⟨cls2,dd2,data2,sl2⟩,ho2,hc2,n2,hd2⟩:=id hb
  simp only at hc hd hc2 hd2
  subst hc hd hc2 hd2
  exact concat_meets ⟨_,ho,rfl⟩ ⟨_,ho2,rfl⟩ noFill_tuple_add seq_tuple_add PySem.F.slot_tuple_add PySem.F.entry_tuple_add (PySem.F.args_tuple_add_2 _ _)
   (tuple_addW0 t b vs.toArray ws.toArray n n2 dd dd2 sl sl2 (by simp [hv])) ⟨ho,ho2,h0 hv⟩
 ·exact HT.cat_tup ht hb hv (h1 hv) (h2 hv) hsz
end
section
variable {X:Cx} {e:Expr} {te:TE} {pos p2:Pos}
theorem zLL {xs:List V} {lo hi:Option Int} (h:HT.sIx xs.length 0 lo=0∧HT.sIx xs.length xs.length hi=xs.length):cutV xs lo hi=xs:=by
 unfold cutV
 rw [h.1,h.2,List.drop_zero,Nat.sub_zero,List.take_length]
end
end L2
namespace L2
open PySem PySem.Spec PyProof.Rows
section
variable {prog:Program} {w:World} {A:Around} {E:Value→Shared→Prop} {s:Shared}
end
end L2
namespace L2
open PySem PySem.Spec PyProof.Rows
section
variable (K:PySem.W.Frag)
end
section
variable {X:Cx}
theorem zNI {pins:List (Addr × Obj)} {σ:St} {H:Hp} {s:Shared} {A:Around} {E:Value→Shared→Prop} {Q:Value→Shared→Prop} {a:Addr} {xs:List V} {c:Value} {b:Bool} (I:Inv X pins σ H s) (ha:SqT X.K H a xs)
  (e:PySem.W.kitOne X.K (.type "tuple") c=some b) (h:∀ tk,Q (.bool b) { s with toks:=tk }):wpAny (model X.prog X.w) A (call (.builtin "isinstance") [.ref a,c]) Q E s:=by
 obtain ⟨its,r,p,_⟩:=I.tuple ha
 obtain ⟨o,h1,h2,_⟩:=p
 exact PySem.W.kia_one PySem.W.kitx_tuple I.kIn ⟨o,h1,h2⟩ e (fun z=>nomatch z) h
theorem zP7 {bs:List Bool}:∀ {us:List Value},Vals (bs.map V.bl) us→us=bs.map Value.bool:=by
 induction bs with
 | nil=>intro us r; rw [List.map_nil] at r; cases r; rfl
 | cons b bs ih =>
  intro us r
  rw [List.map_cons] at r
  cases r with
  | cons r1 r2=>cases r1; rw [ih r2]; rfl
theorem zLM (bs:List Bool):(List.range bs.length).all (fun i=>bs.getD i false)=bs.all id:=by
 rw [Bool.eq_iff_iff,List.all_eq_true,List.all_eq_true]
 constructor
 ·intro h b hb
  obtain ⟨i,hi,e⟩:=List.mem_iff_getElem.mp hb
  have:=h i (List.mem_range.mpr hi)
  rw [List.getD_eq_getElem?_getD,List.getElem?_eq_getElem hi] at this
  rw [← e]
  exact this
 ·intro h i hi
  have hi:=List.mem_range.mp hi
  rw [List.getD_eq_getElem?_getD,List.getElem?_eq_getElem hi]
  exact h _ (List.getElem_mem hi)
theorem zNJ {prog:Program} {w:World} {A:Around} (bs:List Bool):TruthOf prog w A (fun i v=>(bs.map Value.bool).toArray[i]?=some v) (fun i=>bs.getD i false):=by
 intro i v s Q E hP hQ
 have hP:(bs.map Value.bool)[i]?=some v:=by simpa using hP
 rw [List.getElem?_map] at hP
 cases e:bs[i]? with
 | none=>rw [e] at hP; cases hP
 | some b =>
  rw [e] at hP
  cases hP
  refine wpAny_truthy_bool ?_
  have e3:bs.getD i false=b:=by rw [List.getD_eq_getElem?_getD,e]; rfl
  have hQ:Q (bs.getD i false) s:=hQ
  rw [e3] at hQ
  exact hQ
noncomputable def rAll (K:PySem.W.Frag):List V→Hp→VK→Prop:=fun xs H Q=>∃ (p:Addr) (bs:List Bool),xs=[.ref p]∧SqL K H p (bs.map V.bl)∧Q (.bl (bs.all id)) H
theorem zNK (hc:X.calm=true):CallR X (.builtin "all") (rAll X.K):=by
 intro pins s σ H xs us Q I r h
 obtain ⟨p,bs,rfl,hp,q⟩:=h
 obtain ⟨u,rfl,ru⟩:=vals1 r
 cases ru
 obtain ⟨its,rv,pl,hz⟩:=I.list hp
 have e:=zP7 rv
 subst e
 have hlt:p<s.heap.objs.size:=by obtain ⟨o,ho,_⟩:=pl.isList; exact Heap.lt_size ho
 refine call_all_walk (wpAny_pyIter_list pl.isList ?_)
 refine ⟨_,_,_,_,_,_,fun i=>bs.getD i false,rfl,Walks.list (by have:=I.ok.hd hc; simp [this]) _ p (Nat.ne_of_lt hlt) (bs.map Value.bool).toArray,⟨⟨_,Heap.get?_push_size _ rfl,rfl,rfl⟩,pl.isList.push _⟩,zNJ bs,fun h' tk hk=>?_⟩
 have e2:(List.range (bs.map Value.bool).toArray.size).all (fun i=>bs.getD i false)=bs.all id:=by simpa using zLM bs
 refine ⟨.bl (bs.all id),H,I.kept (t':=tk) fun b o e=>hk b o ?_ (Heap.get?_push_of_some _ e),by rw [e2]; rfl,q⟩
 simp only [List.mem_singleton]
 exact Nat.ne_of_lt (Heap.lt_size e)
end
end L2
namespace L2
open PySem PySem.Spec PyProof.Rows
section
variable {prog:Program} {w:World} {A:Around} {E:Value→Shared→Prop} {s:Shared}
noncomputable abbrev IsEn (h:Heap) (n:Addr) (f0:Value) (f1:Bool) (i:Int) (old:Value):Prop :=
 h.get? (n+1)=some { cls:=.type "enumerate",dict:=none,data:=.fields #[f0,.bool f1,.ref n,rawInt i,.none,old],slots:=#[] }
theorem zLN {n:Addr} {f0 old:Value} {f1:Bool} {i:Int} {Q:Bool→Shared→Prop} (hz:IsEn s.heap n f0 f1 i old) (hf:F0 f0)
  (h:∀ b h' f1,IsEn h' n f0 f1 i old→Heap.SameBut (n+1) s.heap h'→Q b { s with heap:=h' }):wpAny (model prog w) A (Builtin.SmallTypes.ownedTupleIsFree (.ref (n+1))) Q E s:=by
 unfold Builtin.SmallTypes.ownedTupleIsFree
 rcases hf with rfl | ⟨T,rfl⟩
 ·exact wpAny_bind (wpAny_field hz rfl (x:=.none) rfl (wpAny_pure (h true s.heap f1 hz (zCK _ _))))
 ·refine wpAny_bind (wpAny_field hz rfl (x:=rawInt T) rfl ?_)
  show wpAny _ _ (loadIfAlive (T:Int).toNat >>= _) _ _ _
  refine wpAny_bind (zG7 ?_)
  cases e:(s.heap.get? (T:Int).toNat).isNone with
  | true=>exact wpAny_pure (h true s.heap f1 hz (zCK _ _))
  | false =>
   simp only [Bool.false_eq_true,if_false]
   refine wpAny_bind (wpAny_field hz rfl (x:=.bool f1) rfl ?_)
   cases f1 with
   | true=>exact wpAny_pure (h false s.heap true hz (zCK _ _))
   | false =>
    show wpAny _ _ (setField (.ref (n+1)) 1 (.bool true) >>= _) _ _ _
    exact wpAny_bind (wpAny_setField_rec hz (by simp) fun h' hz' hs'=>wpAny_pure (h false h' true hz' hs'))
end
theorem lt2 {n c S:Nat} (h:c∈[n,n+1]) (hlt:n+1<S):c<S:=by
 simp only [List.mem_cons,List.not_mem_nil,or_false] at h
 omega
theorem ge2 {n c:Nat} (h:c∈[n,n+1]):n≤c:=by
 simp only [List.mem_cons,List.not_mem_nil,or_false] at h
 omega
section
variable {X:Cx} {tg:Expr}
end
end L2
namespace L2
open PySem PySem.Spec PyProof.Rows
section
variable {prog:Program} {w:World} {A:Around} {E:Value→Shared→Prop} {s:Shared}
end
section
variable {X:Cx} {pins:List (Addr × Obj)} {σ:St} {H:Hp} {s:Shared}
variable {e:Expr} {te:TE} {pos p2:Pos}
end
end L2
namespace L2
open PySem PySem.Spec PyProof.Rows
noncomputable def PairsAt (K:PySem.W.Frag) (H:Hp) (zs:List V) (ps:List (Int × Int)):Prop:=Paired (fun (z:V) (p:Int × Int)=>∃ q,z=.ref q∧SqT K H q [.int p.1,.int p.2]) zs ps
theorem PairsAt.gr {K:PySem.W.Frag} {H H':Hp} {zs:List V} {ps:List (Int × Int)} (h:PairsAt K H zs ps) (g:Gr H H'):PairsAt K H' zs ps:=Paired.mapP h fun _ _ ⟨q,e,k⟩=>⟨q,e,k.gr g⟩
end L2
namespace L2
open PySem PySem.Spec PyProof.Rows
section
variable {prog:Program} {w:World} {A:Around} {E:Value→Shared→Prop} {s:Shared}
end
section
variable {X:Cx} {tg:Expr}
end
end L2
namespace L2
open PySem PySem.Spec PyProof.Rows
section
variable {prog:Program} {w:World} {A:Around} {s:Shared} {R:Result→Shared→Prop} {a b x:Value} {T I S:Addr}
end
section
variable {X:Cx}
end
end L2
namespace L2
open PySem PySem.Spec PyProof.Rows
section
variable {prog:Program} {w:World} {A:Around} {E:Value→Shared→Prop} {s:Shared}
end
theorem zLO {l1 l2:List V} (pp:l1.Perm l2):∀ ns:List Int,l2=ns.map V.int→∃ ms:List Int,l1=ms.map V.int∧ms.Perm ns:=by
 induction pp with
 | nil=>intro ns e; cases ns with | nil=>exact ⟨[],rfl,List.Perm.refl _⟩ | cons _ _=>cases e
 | cons a _ ih =>
  intro ns e
  cases ns with
  | nil=>cases e
  | cons b ns =>
   rw [List.map_cons] at e
   injection e with e1 e2
   obtain ⟨ms,h1,h2⟩:=ih ns e2
   exact ⟨b::ms,by rw [List.map_cons,e1,h1],h2.cons b⟩
 | swap a b l =>
  intro ns e
  match ns,e with
  | c::d::ns,e =>
   rw [List.map_cons,List.map_cons] at e
   injection e with e1 e2
   injection e2 with e2 e3
   exact ⟨d::c::ns,by rw [List.map_cons,List.map_cons,e1,e2,e3],List.Perm.swap _ _ _⟩
 | trans _ _ ih1 ih2 =>
  intro ns e
  obtain ⟨ms,h1,h2⟩:=ih2 ns e
  obtain ⟨ks,h3,h4⟩:=ih1 ms h1
  exact ⟨ks,h3,h4.trans h2⟩
theorem zED {P:Program} {w:World} {H:Hp} {h:Heap} {a:Addr} {kvs:List (Key × V)} (x:ObjOk P w H h a (.dK kvs)):∃ es ep,RawD h a es ep∧es.size=kvs.length∧kvs.length≤sizeLine ∧
  ∀ (i:Nat) (hi:i<es.size),∃ k:Key,(kvs.map (·.1))[i]?=some k∧RelV (kV k) es[i].key:=by
 obtain ⟨z,y,vs,r,o,es,ep,h1,h2,h3,h4,h5,h6⟩:=x
 have hl:es.size=vs.length:=by rw [← h5.length]; simp
 have hl2:kvs.length=vs.length:=r.length
 refine ⟨es,ep,⟨⟨o,h1,h2,h3⟩,y⟩,by omega,z,fun i hi=>?_⟩
 have hi':i<vs.length:=by omega
 obtain ⟨e1,_⟩:=h5.get? (i:=i) (e:=es[i]) (k:=vs[i].1) (v:=vs[i].2) (by simp [hi]) (by simp [hi'])
 refine ⟨vs[i].1,by rw [r.keys]; simp [hi'],?_⟩
 rw [zE1] at e1
 rcases zAP e1 with ⟨j,t,z1,z2⟩ | ⟨y,t,z1,z2⟩
 ·rw [z1,z2]; exact ⟨t,rfl⟩
 ·rw [z1,z2]; exact ⟨t,rfl⟩
section
variable {X:Cx}
noncomputable def ItK (d:Addr) (o:Obj) (kvs:List (Key × V)):It :=
 ⟨fun i H=>i<kvs.length∧H d=some (.frz o (.dK kvs)),fun i H x H'=>H'=H∧∃ k,x=kV k∧(kvs.map (·.1))[i]?=some k,fun i H=>kvs.length≤i∧H d=some (.frz o (.dK kvs))⟩
theorem zFA {P:Program} {w:World} {K:PySem.W.Frag} {tg:Expr} (d it:Addr) (o:Obj) (kvs:List (Key × V)) (es:Array DictEntry) (ep:Nat) (hd:o.data=.dict es ep) (hz:es.size=kvs.length) :
  Turn P w K tg (ItK d o kvs) [it] it (fun i h=>h.IsKeyIter it d i es.size ep) where
 mem:=by simp
 obj:=fun i h st b hb=>by
  have e:b=it:=by simpa using hb
  subst e
  obtain ⟨o,e,c,d⟩:=st
  exact ⟨o,e,fun v z=>by rw [d] at z; cases z⟩
 keep:=fun i h h' st k=>let ⟨o,e,r⟩:=st; ⟨o,k it (by simp) o e,r⟩
 item:=by
  intro X hP hw hK hc i pins s σ H E I hf st hg
  subst hP hw hK
  obtain ⟨hi,hk⟩:=hg
  obtain ⟨ho,hx⟩:=I.hok d _ hk
  obtain ⟨es',ep',rw',e1,e2,e3⟩:=zED hx
  obtain ⟨o',q1,q2,q3⟩:=rw'.ex
  rw [ho] at q1; cases q1
  rw [hd] at q3; injection q3 with q4 q5
  subst q4; subst q5
  obtain ⟨f0,f1,f2,f3,f4,f5⟩:=hf it (by simp)
  refine zI3 st rw' (by omega) fun h' st' sb=>?_
  obtain ⟨k,p2,p3⟩:=e3 i (by omega)
  have I1:Inv X pins σ H { s with heap:=h' }:=I.turned (t':=s.toks) (fun b ob hb e=>(sb.2 b hb).trans e) f0 f1 f3 f4 f5
  obtain ⟨oi,e,c,dd⟩:=id st'
  refine ⟨_,rfl,go_of (s:={ s with heap:=h' }) e c dd (by decide) ⟨kV k,H,I1,p3,⟨rfl,k,rfl,p2⟩,st',fun b hb=>(hf b hb).1⟩⟩
 done:=by
  intro X hP hw hK hc i pins s σ H E I hf st hg
  subst hP hw hK
  obtain ⟨hi,hk⟩:=hg
  obtain ⟨ho,hx⟩:=I.hok d _ hk
  obtain ⟨es',ep',rw',e1,e2,e3⟩:=zED hx
  obtain ⟨o',q1,q2,q3⟩:=rw'.ex
  rw [ho] at q1; cases q1
  rw [hd] at q3; injection q3 with q4 q5
  subst q4; subst q5
  obtain ⟨f0,f1,f2,f3,f4,f5⟩:=hf it (by simp)
  exact zLI (I.ok.hd hc) st rw' (by omega) fun h' eb=>⟨rfl,I.turned (t':=s.toks) (fun b ob hb e=>eb b ob hb e) f0 f1 f3 f4 f5⟩
 self:=fun _ _ _ _ _ st h=>wpAny_pyIter_keyiter st h
theorem Inv.freezeK {pins:List (Addr × Obj)} {σ:St} {H:Hp} {s:Shared} {a:Addr} {kvs:List (Key × V)} (I:Inv X pins σ H s) (ha:H a=some (.dK kvs)) :
  ∃ o,s.heap.get? a=some o∧Inv X pins σ (upd H a (.frz o (.dK kvs))) s:=by
 have x:=I.hok a _ ha
 obtain ⟨es,ep,⟨⟨o,h1,h2,h3⟩,_⟩,_⟩:=zED x
 have kt:∀ b ys,H b=some (.tup ys)→b≠a:=fun b ys e z=>by rw [z,ha] at e; cases e
 have ko:∀ b y,H b=some (.own y)→b≠a:=fun b y e z=>by rw [z,ha] at e; cases e
 have kf:∀ b ob u,H b=some (.frz ob u)→b≠a:=fun b ob u e z=>by rw [z,ha] at e; cases e
 have kb:∀ b ps,H b=some (.tbl ps)→b≠a:=fun b ps e z=>by rw [z,ha] at e; cases e
 have kn:∀ b,H b=none→b≠a:=fun b e z=>by rw [z,ha] at e; cases e
 refine ⟨o,h1,I.un (t':=s.toks) (h':=s.heap) ⟨fun b ob e _ _ _=>e,fun b ob e _ _ _=>⟨ob.slots,e⟩,fun b ob e n _=>by rw [zAF (kn b n)]; exact n,fun b ob e _=>⟨ob,e⟩,fun b ys e=>by rw [zAF (kt b ys e)]; exact e,fun b ob u e=>by rw [zAF (kf b ob u e)]; exact e,fun b ps e=>⟨#[],by rw [zAF (kb b ps e),e]; simp⟩⟩ fun b u e=>?_⟩
 by_cases hb:b=a
 ·subst hb
  rw [zAC] at e
  cases e
  exact ⟨h1,x.stay (fun c v _ q=>q) (fun c q=>by rw [zAF (ko c _ q)]; exact q) fun c ys q=>by rw [zAF (kt c ys q)]; exact q⟩
 ·rw [zAF hb] at e
  exact (I.hok b u e).stay (fun c v _ q=>q) (fun c q=>by rw [zAF (ko c _ q)]; exact q) fun c ys q=>by rw [zAF (kt c ys q)]; exact q
end
end L2
namespace TS
open PySem PyProof.Rows
section
variable {prog:Program} {w:World} {A:Around} {E:Value→Shared→Prop} {s:Shared} {a₀:Array Keyed} {kd:SortKind} {L:Keyed→Keyed→Bool}
noncomputable def AskL (prog:Program) (w:World) (A:Around) (s:Shared) (kd:SortKind) (a₀:Array Keyed) (L:Keyed→Keyed→Bool):Prop :=
 ∀ x y:Keyed,x∈a₀→y∈a₀→∀ (Q:Bool→Shared→Prop) (E:Value→Shared→Prop),Q (L x y) s→wpAny (model prog w) A (keyLt' kd x.1 y.1) Q E s
theorem zF4 {st:SortSt} {x y:Keyed} {Q:Option Bool→SortSt→Prop} (hA:AskL prog w A s kd a₀ L) (hk:kindOf st=kd) (hx:x∈a₀) (hy:y∈a₀) (h:Q (some (L x y)) st) :
  wpS (model prog w) A E s (lt' x y) Q st:=by
 rw [lt'_eq]
 refine wpS_bind (wpS_get ?_)
 rw [hk]
 refine wpS_bind (wpS_lift (wpAny_attempt (hA x y hx hy _ _ ⟨rfl,?_⟩)))
 exact wpS_pure h
noncomputable def Cut (B:Nat→Bool) (n k:Nat):Prop:=k≤n∧(∀ i<k,B i=true)∧∀ i,k≤i→i<n→B i=false
theorem via {α β γ:Type} {T:β→γ→StateT SortSt Sem α} {M:Model} {A:Around} {E:Value→Shared→Prop} {s:Shared} {Q:α→SortSt→Prop} {st:SortSt} {goal:Prop} (P:β→γ→Prop) (h1:(∀ x y,P x y→wpS M A E s (T x y) Q st)→goal) (h2:∀ x y,P x y→wpS M A E s (T x y) Q st):goal:=h1 h2
theorem zFB {st:SortSt} {left:Bool} {key:Keyed} {arr:Array Keyed} {base n hint:Nat} {Q:Option Nat→SortSt→Prop} {B:Nat→Bool} (hA:AskL prog w A s kd a₀ L) (hk:kindOf st=kd) (hkey:key∈a₀) (harr:∀ x∈arr,x∈a₀)
  (hb:base+n≤arr.size) (hh:hint<n) (hB:∀ i (hi:base+i<arr.size),B i=if left then L arr[base+i] key else !L key arr[base+i]) (mono:∀ i j,i≤j→j<n→B j=true→B i=true)
  (h:∀ k,Cut B n k→Q (some k) st):wpS (model prog w) A E s (zEB left key arr base n hint) Q st:=by
 have hm:∀ (i:Nat) (hi:base+i<arr.size),arr[base+i]∈a₀:=fun i hi=>harr _ (Array.getElem_mem hi)
 have anti:∀ i j,i≤j→j<n→B i=false→B j=false:=fun i j hij hj hi=>by
  cases e:B j with
  | false=>rfl
  | true=>rw [mono i j hij hj e] at hi; cases hi
 have bey:∀ (i:Nat) (hi:i<n) {Q:Option Bool→SortSt→Prop},Q (some (B i)) st→wpS (model prog w) A E s (do let x ← elem' arr (base+i); if left=true then lt' x key else return (← lt' key x).map (!·)) Q st:=fun i hi {Q} q=>by
  have hi':base+i<arr.size:=by omega
  have eB:=hB i hi'
  refine wpS_bind (zCT hi' (zAJ (fun hl=>zF4 hA hk (hm _ hi') hkey ?_) fun hl=>wpS_bind (zF4 hA hk hkey (hm _ hi') (wpS_pure ?_))))
  ·rw [if_pos hl] at eB; rw [← eB]; exact q
  ·rw [if_neg hl] at eB; show Q (some (!_)) st; rw [← eB]; exact q
 clear hB
 refine via (M:=model prog w) (A:=A) (E:=E) (s:=s) (fun lo hi:Nat=>lo≤hi∧hi≤n∧(∀ i<lo,B i=true)∧∀ i,hi≤i→i<n→B i=false) (fun K=>by
  refine wpS_bind (bey hint hh ?_)
  cases e:B hint with
  | true =>
   refine wpS_bind (wpS_mono (wpS_forRange (I:=fun x c st'=>st'=st∧∃ l o,c=(none,l,o)∧B (hint+l)=true∧hint+l<n∧l<o∧x+1≤o)
    (Q:=fun c st'=>st'=st∧∃ l o,c=(none,l,o)∧B (hint+l)=true∧hint+l<n∧l<o∧(n - hint≤o∨hint+o<n∧B (hint+o)=false)) ?step (fun c st' ⟨e,l,o,e1,e2,e3,e4,e5⟩=>⟨e,l,o,e1,e2,e3,e4,.inl (by omega)⟩) ⟨rfl,0,1,rfl,e,hh,by omega,by omega⟩) ?post)
   case step =>
    rintro x c st' _ _ ⟨rfl,l,o,rfl,h1,h2,h3,h4⟩
    try dsimp only
    refine zAJ (fun q=>wpS_pure ⟨rfl,l,o,rfl,h1,h2,h3,.inl q⟩) (fun q=>?_)
    refine wpS_bind (bey (hint+o) (by omega) ?_)
    cases e:B (hint+o) with
    | true=>exact wpS_pure ⟨rfl,o,2 * o+1,rfl,e,by omega,by omega,by omega⟩
    | false=>exact wpS_pure ⟨rfl,l,o,rfl,h1,h2,h3,.inr ⟨by omega,e⟩⟩
   case post =>
    rintro c st' ⟨rfl,l,o,rfl,h1,h2,h3,h4⟩
    have hP:hint+l+1≤hint+min o (n - hint)∧hint+min o (n - hint)≤n∧(∀ i<hint+l+1,B i=true)∧∀ i,hint+min o (n - hint)≤i→i<n→B i=false:=⟨by omega,by omega,fun i hi=>mono i (hint+l) (by omega) h2 h1,fun i hi hn=>by
     rcases h4 with h4 | ⟨h4,h5⟩
     ·omega
     ·exact anti (hint+o) i (by omega) hn h5⟩
    revert hP
    dsimp only
    generalize hint+l+1=lo',hint+min o (n - hint)=hi'
    exact fun hP=>K lo' hi' hP
  | false =>
   refine wpS_bind (wpS_mono (wpS_forRange (I:=fun x c st'=>st'=st∧∃ l o,c=(none,l,o)∧B (hint - l)=false∧l≤hint∧l<o∧x+1≤o)
    (Q:=fun c st'=>st'=st∧∃ l o,c=(none,l,o)∧B (hint - l)=false∧l≤hint∧l<o∧(hint+1≤o∨o≤hint∧B (hint - o)=true)) ?step (fun c st' ⟨e,l,o,e1,e2,e3,e4,e5⟩=>⟨e,l,o,e1,e2,e3,e4,.inl (by omega)⟩) ⟨rfl,0,1,rfl,e,by omega,by omega,by omega⟩) ?post)
   case step =>
    rintro x c st' _ _ ⟨rfl,l,o,rfl,h1,h2,h3,h4⟩
    try dsimp only
    refine zAJ (fun q=>wpS_pure ⟨rfl,l,o,rfl,h1,h2,h3,.inl q⟩) (fun q=>?_)
    refine wpS_bind (bey (hint - o) (by omega) ?_)
    cases e:B (hint - o) with
    | true=>exact wpS_pure ⟨rfl,l,o,rfl,h1,h2,h3,.inr ⟨by omega,e⟩⟩
    | false=>exact wpS_pure ⟨rfl,o,2 * o+1,rfl,e,by omega,by omega,by omega⟩
   case post =>
    rintro c st' ⟨rfl,l,o,rfl,h1,h2,h3,h4⟩
    exact K (hint+1 - min o (hint+1)) (hint - l) ⟨by omega,by omega,fun i hi=>by
     rcases h4 with h4 | ⟨h4,h5⟩
     ·omega
     ·exact mono i (hint - o) (by omega) (by omega) h5,fun i hi hn=>anti (hint - l) i hi hn h1⟩) ?_
 rintro lo hi ⟨p1,p2,p3,p4⟩
 refine wpS_bind (wpS_mono (wpS_forRange (I:=fun x c st2=>st2=st∧∃ l r,c=(none,l,r)∧l≤r∧r≤n∧(∀ i<l,B i=true)∧(∀ i,r≤i→i<n→B i=false)∧r - l+x≤n)
  (Q:=fun c st2=>st2=st∧∃ l r,c=(none,l,r)∧Cut B n r) ?st2 (fun c st2 ⟨e,l,r,e1,e2,e3,e4,e5,e6⟩=>⟨e,l,r,e1,e3,fun i hi=>e4 i (by omega),e5⟩) ⟨rfl,lo,hi,rfl,p1,p2,p3,p4,by omega⟩) ?po2)
 case po2 =>
  rintro c st2 ⟨rfl,l,r,rfl,hr⟩
  exact wpS_pure (h r hr)
 case st2 =>
  rintro x c st2 _ _ ⟨rfl,l,r,rfl,q1,q2,q3,q4,q5⟩
  try dsimp only
  refine zAJ (fun q=>wpS_pure ⟨rfl,l,r,rfl,q2,fun i hi=>q3 i (by omega),q4⟩) (fun q=>?_)
  refine wpS_bind (bey (l+(r - l) / 2) (by omega) ?_)
  cases e:B (l+(r - l) / 2) with
  | true=>exact wpS_pure ⟨rfl,l+(r - l) / 2+1,r,rfl,by omega,q2,fun i hi=>mono i (l+(r - l) / 2) (by omega) (by omega) e,q4,by omega⟩
  | false=>exact wpS_pure ⟨rfl,l,l+(r - l) / 2,rfl,by omega,by omega,q3,fun i hi hn=>anti (l+(r - l) / 2) i hi hn e,by omega⟩
end
end TS
namespace TS
open PySem PyProof.Rows
structure Ord (L:Keyed→Keyed→Bool) (a₀:Array Keyed):Prop where
 asym:∀ x y,x∈a₀→y∈a₀→L x y=true→L y x=false
 trans:∀ x y z,x∈a₀→y∈a₀→z∈a₀→L y x=false→L z y=false→L z x=false
noncomputable def SA (L:Keyed→Keyed→Bool) (a:Array Keyed):Prop:=∀ (i j:Nat) (hj:j<a.size) (hij:i<j),L a[j] (a[i]'(by omega))=false
theorem Ord.refl {L:Keyed→Keyed→Bool} {a₀:Array Keyed} (O:Ord L a₀) {x:Keyed} (hx:x∈a₀):L x x=false:=by
 cases e:L x x with
 | false=>rfl
 | true=>rw [O.asym x x hx hx e] at e; cases e
theorem SA.le {L:Keyed→Keyed→Bool} {a₀ a:Array Keyed} (O:Ord L a₀) (ha:∀ x∈a,x∈a₀) (s:SA L a) {i j:Nat} (hj:j<a.size) (hij:i≤j):L a[j] (a[i]'(by omega))=false:=by
 rcases Nat.lt_or_eq_of_le hij with h | h
 ·exact s i j hj h
 ·subst h; exact O.refl (ha _ (Array.getElem_mem _))
section
variable {prog:Program} {w:World} {A:Around} {E:Value→Shared→Prop} {s:Shared} {a₀:Array Keyed} {kd:SortKind} {L:Keyed→Keyed→Bool}
theorem zHA {st:SortSt} {key:Keyed} {arr:Array Keyed} {base n hint:Nat} {Q:Option Nat→SortSt→Prop} (hA:AskL prog w A s kd a₀ L) (O:Ord L a₀) (hk:kindOf st=kd) (hkey:key∈a₀) (harr:∀ x∈arr,x∈a₀)
  (hb:base+n≤arr.size) (hh:hint<n) (sl:∀ (i j:Nat) (hj:base+j<arr.size) (hij:i<j),j<n→L arr[base+j] (arr[base+i]'(by omega))=false)
  (h:∀ k,k≤n→(∀ (i:Nat) (hi:base+i<arr.size),i<k→L key arr[base+i]=false)→(∀ (i:Nat) (hi:base+i<arr.size),k≤i→i<n→L key arr[base+i]=true)→Q (some k) st):wpS (model prog w) A E s (zEB false key arr base n hint) Q st:=by
 refine zFB (B:=fun i=>if hi:base+i<arr.size then !L key arr[base+i] else false) hA hk hkey harr hb hh (fun i hi=>by simp [hi]) (fun i j hij hj e=>?_) fun k ⟨c1,c2,c3⟩=>h k c1 (fun i hi hik=>?_) (fun i hi hki hin=>?_)
 ·rcases Nat.lt_or_eq_of_le hij with h' | h'
  ·have hj':base+j<arr.size:=by omega
   have hi':base+i<arr.size:=by omega
   rw [dif_pos hj'] at e
   show (if hi:base+i<arr.size then !L key arr[base+i] else false)=true
   rw [dif_pos hi']
   have e':L key arr[base+j]=false:=by simpa using e
   rw [O.trans _ _ _ (harr _ (Array.getElem_mem hi')) (harr _ (Array.getElem_mem hj')) hkey (sl i j hj' h' hj) e']
   rfl
  ·subst h'; exact e
 ·have:=c2 i hik
  simpa [hi] using this
 ·have:=c3 i hki hin
  simpa [hi] using this
theorem zHB {st:SortSt} {key:Keyed} {arr:Array Keyed} {base n hint:Nat} {Q:Option Nat→SortSt→Prop} (hA:AskL prog w A s kd a₀ L) (O:Ord L a₀) (hk:kindOf st=kd) (hkey:key∈a₀) (harr:∀ x∈arr,x∈a₀)
  (hb:base+n≤arr.size) (hh:hint<n) (sl:∀ (i j:Nat) (hj:base+j<arr.size) (hij:i<j),j<n→L arr[base+j] (arr[base+i]'(by omega))=false)
  (h:∀ k,k≤n→(∀ (i:Nat) (hi:base+i<arr.size),i<k→L arr[base+i] key=true)→(∀ (i:Nat) (hi:base+i<arr.size),k≤i→i<n→L arr[base+i] key=false)→Q (some k) st):wpS (model prog w) A E s (zEB true key arr base n hint) Q st:=by
 refine zFB (B:=fun i=>if hi:base+i<arr.size then L arr[base+i] key else false) hA hk hkey harr hb hh (fun i hi=>by simp [hi]) (fun i j hij hj e=>?_) fun k ⟨c1,c2,c3⟩=>h k c1 (fun i hi hik=>?_) (fun i hi hki hin=>?_)
 ·rcases Nat.lt_or_eq_of_le hij with h' | h'
  ·have hj':base+j<arr.size:=by omega
   have hi':base+i<arr.size:=by omega
   rw [dif_pos hj'] at e
   show (if hi:base+i<arr.size then L arr[base+i] key else false)=true
   rw [dif_pos hi']
   cases ei:L arr[base+i] key with
   | true=>rfl
   | false =>
    rw [O.trans _ _ _ hkey (harr _ (Array.getElem_mem hi')) (harr _ (Array.getElem_mem hj')) ei (sl i j hj' h' hj)] at e
    cases e
  ·subst h'; exact e
 ·have:=c2 i hik
  simpa [hi] using this
 ·have:=c3 i hki hin
  simpa [hi] using this
end
structure MidO (L:Keyed→Keyed→Bool) (a b out:Array Keyed) (ia ib:Nat):Prop where
 m:Mid a b out ia ib
 so:out.toList.Pairwise fun x y=>L y x=false
 oa:∀ x∈out,∀ (i:Nat) (hi:i<a.size),ia≤i→L a[i] x=false
 ob:∀ x∈out,∀ (i:Nat) (hi:i<b.size),ib≤i→L b[i] x=false
section
variable {L:Keyed→Keyed→Bool} {a b out:Array Keyed} {ia ib:Nat}
theorem zLP {x:Keyed} (h:out.toList.Pairwise fun x y=>L y x=false) (hx:∀ y∈out,L x y=false):(out.push x).toList.Pairwise fun x y=>L y x=false:=by
 rw [Array.toList_push,List.pairwise_append]
 refine ⟨h,List.pairwise_singleton _ _,fun y hy z hz=>?_⟩
 rw [List.mem_singleton.mp hz]
 exact hx y (Array.mem_toList_iff.mp hy)
theorem MidO.pushB (m:MidO L a b out ia ib) (sb:SA L b) (h:ib<b.size) (hle:∀ (i:Nat) (hi:i<a.size),ia≤i→L a[i] b[ib]=false):MidO L a b (out.push b[ib]) ia (ib+1) where
 m:=m.m.pushB h
 so:=zLP m.so fun y hy=>m.ob y hy ib h (Nat.le_refl _)
 oa:=fun x hx i hi hia=>by
  rcases Array.mem_push.mp hx with hx | rfl
  ·exact m.oa x hx i hi hia
  ·exact hle i hi hia
 ob:=fun x hx i hi hib=>by
  rcases Array.mem_push.mp hx with hx | rfl
  ·exact m.ob x hx i hi (by omega)
  ·exact sb ib i hi (by omega)
theorem MidO.pushA (m:MidO L a b out ia ib) (sa:SA L a) (h:ia<a.size) (hle:∀ (i:Nat) (hi:i<b.size),ib≤i→L b[i] a[ia]=false):MidO L a b (out.push a[ia]) (ia+1) ib where
 m:=m.m.pushA h
 so:=zLP m.so fun y hy=>m.oa y hy ia h (Nat.le_refl _)
 oa:=fun x hx i hi hia=>by
  rcases Array.mem_push.mp hx with hx | rfl
  ·exact m.oa x hx i hi (by omega)
  ·exact sa ia i hi (by omega)
 ob:=fun x hx i hi hib=>by
  rcases Array.mem_push.mp hx with hx | rfl
  ·exact m.ob x hx i hi hib
  ·exact hle i hi hib
theorem zF5 (a:Array Keyed) {i k:Nat} (h:i+k<a.size):out++a.extract i (i+(k+1))=(out++a.extract i (i+k)).push a[i+k]:=by
 apply Array.ext'
 rw [Array.toList_append,Array.toList_push,Array.toList_append,Array.toList_extract,Array.toList_extract,List.append_assoc]
 congr 1
 show (a.toList.drop i).take (i+(k+1) - i)=(a.toList.drop i).take (i+k - i)++[a[i+k]]
 rw [show i+(k+1) - i=k+1 by omega,show i+k - i=k by omega,List.take_succ_eq_append_getElem (by simp; omega)]
 simp
theorem MidO.manyA (sa:SA L a):∀ {k:Nat},MidO L a b out ia ib→ia+k≤a.size→(∀ (i:Nat) (hi:i<a.size),ia≤i→i<ia+k→∀ (j:Nat) (hj:j<b.size),ib≤j→L b[j] a[i]=false)→MidO L a b (out++a.extract ia (ia+k)) (ia+k) ib
 | 0,m,_,_=>by
  have e:out++a.extract ia (ia+0)=out:=by simp <;> omega
  rw [e]; exact m
 | k+1,m,h,hle=>by
  have z:=MidO.manyA sa (k:=k) m (by omega) fun i hi h1 h2=>hle i hi h1 (by omega)
  rw [zF5 a (show ia+k<a.size by omega)]
  exact z.pushA sa (by omega) fun j hj hjb=>hle (ia+k) (by omega) (by omega) (by omega) j hj hjb
theorem MidO.manyB (sb:SA L b):∀ {k:Nat},MidO L a b out ia ib→ib+k≤b.size→(∀ (i:Nat) (hi:i<b.size),ib≤i→i<ib+k→∀ (j:Nat) (hj:j<a.size),ia≤j→L a[j] b[i]=false)→MidO L a b (out++b.extract ib (ib+k)) ia (ib+k)
 | 0,m,_,_=>by
  have e:out++b.extract ib (ib+0)=out:=by simp <;> omega
  rw [e]; exact m
 | k+1,m,h,hle=>by
  have z:=MidO.manyB sb (k:=k) m (by omega) fun i hi h1 h2=>hle i hi h1 (by omega)
  rw [zF5 b (show ib+k<b.size by omega)]
  exact z.pushB sb (by omega) fun j hj hja=>hle (ib+k) (by omega) (by omega) (by omega) j hj hja
theorem MidO.doneB (m:MidO L a b out ia ib) (sa:SA L a) (h:ib=b.size):(out++a.extract ia a.size++b.extract ib b.size).toList.Pairwise fun x y=>L y x=false:=by
 have la:=m.m.la
 have z:=m.manyA sa (k:=a.size - ia) (by omega) fun i hi h1 h2 j hj hjb=>by omega
 rw [show ia+(a.size - ia)=a.size by omega] at z
 have e:b.extract ib b.size=#[]:=by rw [h]; simp
 rw [e,Array.append_empty]
 exact z.so
theorem MidO.doneA (m:MidO L a b out ia ib) (sb:SA L b) (h:ia=a.size):(out++a.extract ia a.size++b.extract ib b.size).toList.Pairwise fun x y=>L y x=false:=by
 have lb:=m.m.lb
 have z:=m.manyB sb (k:=b.size - ib) (by omega) fun i hi h1 h2 j hj hja=>by omega
 rw [show ib+(b.size - ib)=b.size by omega] at z
 have e:a.extract ia a.size=#[]:=by rw [h]; simp
 rw [e,Array.append_empty]
 exact z.so
theorem MidO.lastA (m:MidO L a b out ia ib) (sa:SA L a) (sb:SA L b) (h:ia+1=a.size) (hl:∀ (j:Nat) (hj:j<b.size),L (a[a.size - 1]'(by omega)) b[j]=false):(out++b.extract ib b.size++a.extract ia a.size).toList.Pairwise fun x y=>L y x=false:=by
 have lb:=m.m.lb
 have z:=m.manyB sb (k:=b.size - ib) (by omega) fun i hi h1 h2 j hj hja=>by
  have e:j=a.size - 1:=by omega
  subst e
  exact hl i hi
 rw [show ib+(b.size - ib)=b.size by omega] at z
 have z2:=z.manyA sa (k:=1) (by omega) fun i hi h1 h2 j hj hjb=>by omega
 rw [h] at z2
 exact z2.so
end
@[elab_as_elim] theorem exq4 {K:Prop} {α0 α1 α2 α3 γ:Type} {f:α0→α1→α2→α3→γ} {P:α0→α1→α2→α3→Prop} {G:γ→Prop} {c:γ} (H:K∧∃ x0 x1 x2 x3,c=f x0 x1 x2 x3∧P x0 x1 x2 x3) (k:K→∀ x0 x1 x2 x3,P x0 x1 x2 x3→G (f x0 x1 x2 x3)):G c:=by
 obtain ⟨g,x0,x1,x2,x3,rfl,p⟩:=H
 exact k g x0 x1 x2 x3 p
@[elab_as_elim] theorem exq5 {K:Prop} {α0 α1 α2 α3 α4 γ:Type} {f:α0→α1→α2→α3→α4→γ} {P:α0→α1→α2→α3→α4→Prop} {G:γ→Prop} {c:γ} (H:K∧∃ x0 x1 x2 x3 x4,c=f x0 x1 x2 x3 x4∧P x0 x1 x2 x3 x4) (k:K→∀ x0 x1 x2 x3 x4,P x0 x1 x2 x3 x4→G (f x0 x1 x2 x3 x4)):G c:=by
 obtain ⟨g,x0,x1,x2,x3,x4,rfl,p⟩:=H
 exact k g x0 x1 x2 x3 x4 p
@[elab_as_elim] theorem exq6 {K:Prop} {α0 α1 α2 α3 α4 α5 γ:Type} {f:α0→α1→α2→α3→α4→α5→γ} {P:α0→α1→α2→α3→α4→α5→Prop} {G:γ→Prop} {c:γ} (H:K∧∃ x0 x1 x2 x3 x4 x5,c=f x0 x1 x2 x3 x4 x5∧P x0 x1 x2 x3 x4 x5) (k:K→∀ x0 x1 x2 x3 x4 x5,P x0 x1 x2 x3 x4 x5→G (f x0 x1 x2 x3 x4 x5)):G c:=by
 obtain ⟨g,x0,x1,x2,x3,x4,x5,rfl,p⟩:=H
 exact k g x0 x1 x2 x3 x4 x5 p
@[elab_as_elim] theorem exq7 {K:Prop} {α0 α1 α2 α3 α4 α5 α6 γ:Type} {f:α0→α1→α2→α3→α4→α5→α6→γ} {P:α0→α1→α2→α3→α4→α5→α6→Prop} {G:γ→Prop} {c:γ} (H:K∧∃ x0 x1 x2 x3 x4 x5 x6,c=f x0 x1 x2 x3 x4 x5 x6∧P x0 x1 x2 x3 x4 x5 x6) (k:K→∀ x0 x1 x2 x3 x4 x5 x6,P x0 x1 x2 x3 x4 x5 x6→G (f x0 x1 x2 x3 x4 x5 x6)):G c:=by
 obtain ⟨g,x0,x1,x2,x3,x4,x5,x6,rfl,p⟩:=H
 exact k g x0 x1 x2 x3 x4 x5 x6 p
section
variable {prog:Program} {w:World} {A:Around} {E:Value→Shared→Prop} {s:Shared} {a₀:Array Keyed} {kd:SortKind} {L:Keyed→Keyed→Bool} {β:Type} {Q:β→SortSt→Prop} {st:SortSt}
theorem bElem {arr:Array Keyed} {i:Nat} {f:Keyed→StateT SortSt Sem β} (hi:i<arr.size) (h:wpS (model prog w) A E s (f arr[i]) Q st):wpS (model prog w) A E s (elem' arr i >>= f) Q st:=wpS_bind (zCT hi h)
theorem bGal {g:Nat} {f:Unit→StateT SortSt Sem β} (h:wpS (model prog w) A E s (f ()) Q (zG0 st g)):wpS (model prog w) A E s (zCD g >>= f) Q st:=wpS_bind (zPZ h)
theorem bLtL {x y:Keyed} {f:Option Bool→StateT SortSt Sem β} (hA:AskL prog w A s kd a₀ L) (hk:kindOf st=kd) (hx:x∈a₀) (hy:y∈a₀) (h:wpS (model prog w) A E s (f (some (L x y))) Q st):wpS (model prog w) A E s (lt' x y >>= f) Q st:=wpS_bind (zF4 hA hk hx hy h)
theorem zFC {γ:Type} {a b:Nat} {f:Nat→γ→StateT SortSt Sem (ForInStep γ)} {k:γ→StateT SortSt Sem β} (I:Nat→γ→SortSt→Prop) (R:γ→SortSt→Prop)
  (hstep:∀ i c st,a≤i→i<b→I i c st→wpS (model prog w) A E s (f i c) (fun r st'=>match r with | .done c'=>R c' st' | .yield c'=>I (i+1) c' st') st)
  (hend:∀ c st,I (max a b) c st→R c st) {c:γ} (h:I a c st) (hp:∀ c st',R c st'→wpS (model prog w) A E s (k c) Q st'):wpS (model prog w) A E s (forIn [a:b] c f >>= k) Q st:=wpS_bind (wpS_mono (wpS_forRange I hstep hend h) hp)
theorem bGle {key:Keyed} {arr:Array Keyed} {base n hint:Nat} {f:Option Nat→StateT SortSt Sem β} (hA:AskL prog w A s kd a₀ L) (O:Ord L a₀) (hk:kindOf st=kd) (hkey:key∈a₀) (harr:∀ x∈arr,x∈a₀)
  (hb:base+n≤arr.size) (hh:hint<n) (sl:∀ (i j:Nat) (hj:base+j<arr.size) (hij:i<j),j<n→L arr[base+j] (arr[base+i]'(by omega))=false)
  (h:∀ k,k≤n→(∀ (i:Nat) (hi:base+i<arr.size),i<k→L key arr[base+i]=false)→(∀ (i:Nat) (hi:base+i<arr.size),k≤i→i<n→L key arr[base+i]=true)→wpS (model prog w) A E s (f (some k)) Q st):wpS (model prog w) A E s (zEB false key arr base n hint >>= f) Q st:=wpS_bind (zHA hA O hk hkey harr hb hh sl h)
theorem bGlt {key:Keyed} {arr:Array Keyed} {base n hint:Nat} {f:Option Nat→StateT SortSt Sem β} (hA:AskL prog w A s kd a₀ L) (O:Ord L a₀) (hk:kindOf st=kd) (hkey:key∈a₀) (harr:∀ x∈arr,x∈a₀)
  (hb:base+n≤arr.size) (hh:hint<n) (sl:∀ (i j:Nat) (hj:base+j<arr.size) (hij:i<j),j<n→L arr[base+j] (arr[base+i]'(by omega))=false)
  (h:∀ k,k≤n→(∀ (i:Nat) (hi:base+i<arr.size),i<k→L arr[base+i] key=true)→(∀ (i:Nat) (hi:base+i<arr.size),k≤i→i<n→L arr[base+i] key=false)→wpS (model prog w) A E s (f (some k)) Q st):wpS (model prog w) A E s (zEB true key arr base n hint >>= f) Q st:=wpS_bind (zHB hA O hk hkey harr hb hh sl h)
end
end TS
namespace TS
open PySem PyProof.Rows
section
variable {prog:Program} {w:World} {A:Around} {E:Value→Shared→Prop} {s:Shared} {a₀:Array Keyed} {kd:SortKind} {L:Keyed→Keyed→Bool}
theorem via1 {α β:Type} {T:β→StateT SortSt Sem α} {M:Model} {A:Around} {E:Value→Shared→Prop} {s:Shared} {Q:α→SortSt→Prop} {st:SortSt} {goal:Prop} (h1:(∀ x,wpS M A E s (T x) Q st)→goal) (h2:∀ x,wpS M A E s (T x) Q st):goal:=h1 h2
theorem zIA {st:SortSt} {a b:Array Keyed} {Q:Array Keyed→SortSt→Prop} (hA:AskL prog w A s kd a₀ L) (O:Ord L a₀) (hk:kindOf st=kd) (ha:∀ x∈a,x∈a₀) (hb:∀ x∈b,x∈a₀) (na:1≤a.size) (nb:1≤b.size) (sa:SA L a) (sb:SA L b) (hf:∀ (i:Nat) (hi:i<a.size),L a[i] (b[0]'(by omega))=false) (hl:∀ (j:Nat) (hj:j<b.size),L (a[a.size - 1]'(by omega)) b[j]=false)
  (h:∀ c st',Gal st st'→c.Perm (a++b)→(c.toList.Pairwise fun x y=>L y x=false)→Q c st'):wpS (model prog w) A E s (zND a b) Q st:=by
 refine wpS_bind (wpS_lift (wpAny_rule ⟨rfl,?_⟩))
 dsimp only
 refine bElem (by omega) ?_
 have m0:MidO L a b #[b[0]] 0 1:=by
  have z:MidO L a b #[] 0 0:=⟨⟨by simp,by omega,by omega,rfl⟩,List.Pairwise.nil,fun x hx=>by simp at hx,fun x hx=>by simp at hx⟩
  exact z.pushB sb (by omega) fun i hi _=>hf i hi
 refine zAJ (fun e1=>wpS_pure (h _ _ (Gal.refl st) m0.m.done (m0.doneB sa (beq_iff_eq.mp e1)))) (fun e1=>?_)
 replace e1:¬ 1=b.size:=fun z=>e1 (beq_iff_eq.mpr z)
 refine zAJ (fun e2=>wpS_pure (h _ _ (Gal.refl st) m0.m.lastA (m0.lastA sa sb (beq_iff_eq.mp e2) hl))) (fun e2=>?_)
 replace e2:¬ 0+1=a.size:=fun z=>e2 (beq_iff_eq.mpr z)
 refine wpS_bind (wpS_get ?_)
 refine zFC
  (I:=fun i c st'=>Gal st st'∧∃ out ia ib g,c=(none,out,ia,ib,g)∧MidO L a b out ia ib∧ia+1<a.size∧ib<b.size∧i+1≤out.size)
  (R:=fun c st'=>Gal st st'∧∃ r out ia ib g,c=(some r,out,ia,ib,g)∧(r.Perm (a++b)∧r.toList.Pairwise fun x y=>L y x=false)) ?step ?fin ?init ?post
 case init=>exact ⟨Gal.refl st,_,_,_,_,rfl,m0,by omega,by omega,by simp⟩
 case post =>
  intro c st' H
  refine exq5 (c:=c) H fun g r out ia ib gg p=>?_
  clear H
  exact wpS_pure (h _ _ g p.1 p.2)
 case fin =>
  intro c st' H
  refine exq4 (c:=c) H fun g out ia ib gg P=>?_
  clear H
  have m:=P.1
  have h1:=P.2.1
  have h2:=P.2.2.1
  have h3:=P.2.2.2
  clear P
  exfalso
  have:=m.m.sz
  omega
 case step =>
  intro i c st' _ hi H
  refine exq4 (c:=c) H fun g out ia ib gg P=>?_
  clear H
  have m:=P.1
  have h1:=P.2.1
  have h2:=P.2.2.1
  have h3:=P.2.2.2
  clear P
  dsimp only
  have tot:0<a.size+b.size:=by omega
  -- one by one
  refine zFC
   (I:=fun _ c st2=>Gal st st2∧∃ out ia ib ac bc,c=(none,out,ia,ib,ac,bc)∧MidO L a b out ia ib∧ia+1<a.size∧ib<b.size∧i+1≤out.size)
   (R:=fun c st2=>Gal st st2∧∃ r out ia ib ac bc,c=(r,out,ia,ib,ac,bc)∧(match r with
    | some r=>(r.Perm (a++b)∧r.toList.Pairwise fun x y=>L y x=false)
    | none=>MidO L a b out ia ib∧ia+1<a.size∧ib<b.size∧i+1≤out.size)) ?step1 ?fin1 ⟨g,_,_,_,_,_,rfl,m,h1,h2,h3⟩ ?post1
  case fin1 =>
   intro c st2 H
   refine exq5 (c:=c) H fun g2 out ia ib ac bc P=>?_
   clear H
   have m:=P.1
   have h1:=P.2.1
   have h2:=P.2.2.1
   have h3:=P.2.2.2
   clear P
   exact ⟨g2,none,_,_,_,_,_,rfl,m,h1,h2,h3⟩
  case step1 =>
   intro j c st2 _ hj H
   refine exq5 (c:=c) H fun g2 out ia ib ac bc P=>?_
   clear H
   have m:=P.1
   have h1:=P.2.1
   have h2:=P.2.2.1
   have h3:=P.2.2.2
   clear P
   dsimp only
   refine bElem h2 (bElem (by omega) (bLtL hA (g2.kind hk) (hb _ (Array.getElem_mem h2)) (ha _ (Array.getElem_mem _)) ?_))
   have hia:ia<a.size:=by omega
   refine zAJ (fun ew=>?_) (fun ew=>?_)
   ·refine bElem h2 ?_
    have m2:=m.pushB sb h2 fun i hi hii=>O.trans _ _ _ (hb _ (Array.getElem_mem h2)) (ha _ (Array.getElem_mem hia)) (ha _ (Array.getElem_mem hi)) (O.asym _ _ (hb _ (Array.getElem_mem h2)) (ha _ (Array.getElem_mem hia)) ew) (sa.le O ha hi hii)
    have hs2:i+1≤(out.push b[ib]).size:=by rw [Array.size_push]; omega
    refine zAJ (fun q=>wpS_pure ⟨g2,some _,_,_,_,_,_,rfl,m2.m.done,m2.doneB sa (beq_iff_eq.mp q)⟩) (fun q=>?_)
    have h2':ib+1<b.size:=Nat.lt_of_le_of_ne h2 fun z=>q (beq_iff_eq.mpr z)
    refine zAJ (fun _=>?_) (fun _=>?_)
    ·exact wpS_pure ⟨g2,none,_,_,_,_,_,rfl,m2,h1,h2',hs2⟩
    ·exact wpS_pure ⟨g2,_,_,_,_,_,rfl,m2,h1,h2',hs2⟩
   ·refine bElem hia ?_
    have m2:=m.pushA sa hia fun i hi hii=>O.trans _ _ _ (ha _ (Array.getElem_mem hia)) (hb _ (Array.getElem_mem h2)) (hb _ (Array.getElem_mem hi)) (Bool.eq_false_iff.mpr ew) (sb.le O hb hi hii)
    have hs2:i+1≤(out.push a[ia]).size:=by rw [Array.size_push]; omega
    refine zAJ (fun q=>wpS_pure ⟨g2,some _,_,_,_,_,_,rfl,m2.m.lastA,m2.lastA sa sb (beq_iff_eq.mp q) hl⟩) (fun q=>?_)
    have h1':ia+1+1<a.size:=Nat.lt_of_le_of_ne h1 fun z=>q (beq_iff_eq.mpr z)
    refine zAJ (fun _=>?_) (fun _=>?_)
    ·exact wpS_pure ⟨g2,none,_,_,_,_,_,rfl,m2,h1',h2,hs2⟩
    ·exact wpS_pure ⟨g2,_,_,_,_,_,rfl,m2,h1',h2,hs2⟩
  case post1 =>
   intro c st2 H
   refine exq6 (c:=c) H fun g2 r out ia ib ac bc hr=>?_
   clear H
   cases r with
   | some r=>exact wpS_pure ⟨g2,r,_,_,_,_,rfl,hr⟩
   | none =>
    have m:=hr.1
    have h1:=hr.2.1
    have h2:=hr.2.2.1
    have h3:=hr.2.2.2
    clear hr
    dsimp only
    refine wpS_bind (wpS_lift (wpAny_rule ⟨rfl,?_⟩))
    refine zFC
     (I:=fun j c st3=>Gal st st3∧∃ out ia ib gg ac bc,c=(none,out,ia,ib,gg,ac,bc)∧MidO L a b out ia ib∧ia+1<a.size∧ib<b.size∧i+1+(if j=0 then 0 else 1)≤out.size)
     (R:=fun c st3=>Gal st st3∧∃ r out ia ib gg ac bc,c=(r,out,ia,ib,gg,ac,bc)∧(match r with
      | some r=>(r.Perm (a++b)∧r.toList.Pairwise fun x y=>L y x=false)
      | none=>MidO L a b out ia ib∧ia+1<a.size∧ib<b.size∧i+2≤out.size)) ?step2 ?fin2 ⟨g2,_,_,_,_,_,_,rfl,m,h1,h2,by simpa using h3⟩ ?post2
    case fin2 =>
     intro c st3 H
     refine exq6 (c:=c) H fun g3 out ia ib gg ac bc P=>?_
     clear H
     have m:=P.1
     have h1:=P.2.1
     have h2:=P.2.2.1
     have h3:=P.2.2.2
     clear P
     rw [if_neg (by omega)] at h3
     exact ⟨g3,none,_,_,_,_,_,_,rfl,m,h1,h2,h3⟩
    case step2 =>
     intro j c st3 _ hj H
     refine exq6 (c:=c) H fun g3 out ia ib gg ac bc P=>?_
     clear H
     have m:=P.1
     have h1:=P.2.1
     have h2:=P.2.2.1
     have h3:=P.2.2.2
     clear P
     replace h3:i+1≤out.size:=by
      split at h3 <;> omega
     dsimp only
     refine via1 (M:=model prog w) (A:=A) (E:=E) (s:=s) (fun K=>by
      refine zAJ (fun hg=>?gpos) (fun hg=>?gneg)
      case gneg =>
       generalize gg=g'
       exact K g'
      case gpos=>exact K (gg - 1)) (fun gg=>?_)
     refine bGal ?_
     refine bElem h2 (bGle hA O ((g3.set _).kind hk) (hb _ (Array.getElem_mem h2)) ha (by omega) (by omega) (fun i j hj hij _=>sa (ia+i) (ia+j) hj (by omega)) fun k hk' c1 c2=>?_)
     have c2':∀ (i:Nat) (hi:i<a.size),ia+k≤i→L a[i] b[ib]=false:=fun i hi hik=>O.asym _ _ (hb _ (Array.getElem_mem h2)) (ha _ (Array.getElem_mem hi)) (by
      have z:=c2 (i - ia) (by omega) (by omega) (by omega)
      simpa [show ia+(i - ia)=i by omega] using z)
     dsimp only
     refine via (fun (out:Array Keyed) (ia:Nat)=>MidO L a b out ia ib∧ia+1<a.size∧i+1≤out.size∧∀ (i:Nat) (hi:i<a.size),ia≤i→L a[i] b[ib]=false) (fun K=>by
      by_cases hk0:¬ (k > 0)
      ·rw [if_neg hk0]
       have hP:MidO L a b out ia ib∧ia+1<a.size∧i+1≤out.size∧∀ (i:Nat) (hi:i<a.size),ia≤i→L a[i] b[ib]=false:=⟨m,h1,h3,fun i hi hik=>c2' i hi (by omega)⟩
       revert hP
       generalize out=out',ia=ia'
       exact fun hP=>K out' ia' hP
      ·rw [if_pos (Decidable.not_not.mp hk0)]
       replace m:=m.manyA sa (k:=k) (by omega) fun i hi h1' h2' j hj hjb=>O.trans _ _ _ (ha _ (Array.getElem_mem hi)) (hb _ (Array.getElem_mem h2)) (hb _ (Array.getElem_mem hj)) (by
        have z:=c1 (i - ia) (by omega) (by omega)
        simpa [show ia+(i - ia)=i by omega] using z) (sb.le O hb hj hjb)
       refine zAJ (fun q1=>wpS_pure ⟨g3.set _,some _,_,_,_,_,_,_,rfl,m.m.lastA,m.lastA sa sb (beq_iff_eq.mp q1) hl⟩) (fun q1=>?_)
       replace q1:¬ (ia+k+1=a.size):=fun z=>q1 (beq_iff_eq.mpr z)
       refine zAJ (fun q2=>wpS_pure ⟨g3.set _,some _,_,_,_,_,_,_,rfl,m.m.done,m.doneA sb (beq_iff_eq.mp q2)⟩) (fun q2=>?_)
       replace q2:¬ (ia+k=a.size):=fun z=>q2 (beq_iff_eq.mpr z)
       exact K _ _ ⟨m,by omega,by rw [Array.size_append]; omega,c2'⟩) ?_
     clear c1 c2 c2' m h1 h3 hk'
     intro out ia P
     have m:=P.1
     have h1:=P.2.1
     have h3:=P.2.2.1
     have c2':=P.2.2.2
     clear P
     refine bElem h2 ?_
     have hs0:=m.m.sz
     replace m:=m.pushB sb h2 c2'
     have hs:=m.m.sz
     refine zAJ (fun q3=>wpS_pure ⟨g3.set _,some _,_,_,_,_,_,_,rfl,m.m.done,m.doneB sa (beq_iff_eq.mp q3)⟩) (fun q3=>?_)
     replace q3:¬ (ib+1=b.size):=fun z=>q3 (beq_iff_eq.mpr z)
     refine bElem (by omega) (bGlt hA O ((g3.set _).kind hk) (ha _ (Array.getElem_mem _)) hb (by omega) (by omega) (fun i j hj hij _=>sb (ib+1+i) (ib+1+j) hj (by omega)) fun k2 hk2 d1 d2=>?_)
     dsimp only
     refine via (fun (out:Array Keyed) (ib:Nat)=>MidO L a b out ia ib∧ib<b.size∧i+2≤out.size∧∀ (i:Nat) (hi:i<b.size),ib≤i→L b[i] (a[ia]'(by omega))=false) (fun K=>by
      by_cases hk1:¬ (k2 > 0)
      ·rw [if_neg hk1]
       have hP:MidO L a b (out.push b[ib]) ia (ib+1)∧ib+1<b.size∧i+2≤(out.push b[ib]).size∧∀ (i:Nat) (hi:i<b.size),ib+1≤i→L b[i] (a[ia]'(by omega))=false:=⟨m,by omega,by rw [Array.size_push]; omega,fun i hi hii=>by
        have z:=d2 (i - (ib+1)) (by omega) (by omega) (by omega)
        simpa [show ib+1+(i - (ib+1))=i by omega] using z⟩
       revert hP
       generalize out.push b[ib]=out',ib+1=ib'
       exact fun hP=>K out' ib' hP
      ·rw [if_pos (Decidable.not_not.mp hk1)]
       replace m:=m.manyB sb (k:=k2) (by omega) fun i hi h1' h2' j hj hja=>O.trans _ _ _ (hb _ (Array.getElem_mem hi)) (ha _ (Array.getElem_mem _)) (ha _ (Array.getElem_mem hj)) (O.asym _ _ (hb _ (Array.getElem_mem hi)) (ha _ (Array.getElem_mem _)) (by
        have z:=d1 (i - (ib+1)) (by omega) (by omega)
        simpa [show ib+1+(i - (ib+1))=i by omega] using z)) (sa.le O ha hj hja)
       refine zAJ (fun q4=>wpS_pure ⟨g3.set _,some _,_,_,_,_,_,_,rfl,m.m.done,m.doneB sa (beq_iff_eq.mp q4)⟩) (fun q4=>?_)
       replace q4:¬ (ib+1+k2=b.size):=fun z=>q4 (beq_iff_eq.mpr z)
       exact K _ _ ⟨m,by omega,by rw [Array.size_append]; omega,fun i hi hii=>by
        have z:=d2 (i - (ib+1)) (by omega) (by omega) (by omega)
        simpa [show ib+1+(i - (ib+1))=i by omega] using z⟩) ?_
     clear d1 d2 hk2 m q3 hs hs0 h3 c2'
     intro out ib P
     have m:=P.1
     have h2:=P.2.1
     have h3:=P.2.2.1
     have d2:=P.2.2.2
     clear P
     refine bElem (by omega) ?_
     have hs2:=m.m.sz
     replace m:=m.pushA sa (by omega) d2
     have hs3:=m.m.sz
     refine zAJ (fun q5=>?_) (fun q5=>?_)
     ·exact wpS_pure ⟨g3.set _,some _,_,_,_,_,_,_,rfl,m.m.lastA,m.lastA sa sb (beq_iff_eq.mp q5) hl⟩
     ·have q5':¬ (_=_):=fun z=>q5 (beq_iff_eq.mpr z)
      refine zAJ (fun q6=>?_) (fun q6=>?_)
      ·exact wpS_pure ⟨g3.set _,none,_,_,_,_,_,_,rfl,m,by omega,h2,by omega⟩
      ·exact wpS_pure ⟨g3.set _,_,_,_,_,_,_,rfl,m,by omega,h2,by rw [if_neg (by omega)]; omega⟩
    case post2 =>
     intro c st3 H
     refine exq7 (c:=c) H fun g3 r out ia ib gg ac bc hr=>?_
     clear H
     cases r with
     | some r=>exact wpS_pure ⟨g3,r,_,_,_,_,rfl,hr⟩
     | none =>
      have m:=hr.1
      have h1:=hr.2.1
      have h2:=hr.2.2.1
      have h3:=hr.2.2.2
      clear hr
      exact bGal (wpS_pure ⟨g3.set _,_,_,_,_,rfl,m,h1,h2,h3⟩)
end
end TS
namespace TS
open PySem PyProof.Rows
structure MidHO (L:Keyed→Keyed→Bool) (a b out:Array Keyed) (na nb:Nat):Prop where
 m:MidH a b out na nb
 so:out.toList.Pairwise fun x y=>L x y=false
 oa:∀ x∈out,∀ (i:Nat) (hi:i<a.size),i<na→L x a[i]=false
 ob:∀ x∈out,∀ (i:Nat) (hi:i<b.size),i<nb→L x b[i]=false
section
variable {L:Keyed→Keyed→Bool} {a b out:Array Keyed} {na nb:Nat}
theorem zI6 {x:Keyed} (h:out.toList.Pairwise fun x y=>L x y=false) (hx:∀ y∈out,L y x=false):(out.push x).toList.Pairwise fun x y=>L x y=false:=by
 rw [Array.toList_push,List.pairwise_append]
 refine ⟨h,List.pairwise_singleton _ _,fun y hy z hz=>?_⟩
 rw [List.mem_singleton.mp hz]
 exact hx y (Array.mem_toList_iff.mp hy)
theorem MidHO.pushA (m:MidHO L a b out na nb) (sa:SA L a) (h0:1≤na) (h:na - 1<a.size) (hle:∀ (j:Nat) (hj:j<b.size),j<nb→L a[na - 1] b[j]=false):MidHO L a b (out.push a[na - 1]) (na - 1) nb where
 m:=m.m.pushA h0 h
 so:=zI6 m.so fun y hy=>m.oa y hy (na - 1) h (by omega)
 oa:=fun x hx i hi hia=>by
  rcases Array.mem_push.mp hx with hx | rfl
  ·exact m.oa x hx i hi (by omega)
  ·exact sa i (na - 1) h (by omega)
 ob:=fun x hx i hi hib=>by
  rcases Array.mem_push.mp hx with hx | rfl
  ·exact m.ob x hx i hi hib
  ·exact hle i hi hib
theorem MidHO.pushB (m:MidHO L a b out na nb) (sb:SA L b) (h0:1≤nb) (h:nb - 1<b.size) (hle:∀ (j:Nat) (hj:j<a.size),j<na→L b[nb - 1] a[j]=false):MidHO L a b (out.push b[nb - 1]) na (nb - 1) where
 m:=m.m.pushB h0 h
 so:=zI6 m.so fun y hy=>m.ob y hy (nb - 1) h (by omega)
 oa:=fun x hx i hi hia=>by
  rcases Array.mem_push.mp hx with hx | rfl
  ·exact m.oa x hx i hi hia
  ·exact hle i hi hia
 ob:=fun x hx i hi hib=>by
  rcases Array.mem_push.mp hx with hx | rfl
  ·exact m.ob x hx i hi (by omega)
  ·exact sb i (nb - 1) h (by omega)
theorem zLQ (a:Array Keyed) {i n:Nat} (h:i<n) (hn:n - 1<a.size):out++(a.extract i n).reverse=(out.push a[n - 1])++(a.extract i (n - 1)).reverse:=by
 have e:a.extract i n=(a.extract i (n - 1)).push a[n - 1]:=by
  have z:=zF5 (out:=#[]) a (i:=i) (k:=n - 1 - i) (by omega)
  rw [show i+(n - 1 - i+1)=n by omega] at z
  simpa [show i+(n - 1 - i)=n - 1 by omega] using z
 rw [e]
 generalize a.extract i (n - 1)=x
 generalize a[n - 1]=y
 apply Array.ext'
 simp
theorem MidHO.manyA (sa:SA L a) {i0:Nat} (m:MidHO L a b out na nb) (h:i0≤na) (hle:∀ (i:Nat) (hi:i<a.size),i0≤i→i<na→∀ (j:Nat) (hj:j<b.size),j<nb→L a[i] b[j]=false):MidHO L a b (out++(a.extract i0 na).reverse) i0 nb:=by
 obtain ⟨d,hd⟩:∃ d,na=i0+d:=⟨na - i0,by omega⟩
 induction d generalizing na out with
 | zero =>
  have e0:na=i0:=by omega
  subst e0
  have e:out++(a.extract na na).reverse=out:=by
   have:a.extract na na=#[]:=by simp <;> omega
   rw [this]; simp
  rw [e]; exact m
 | succ d ih =>
  have la:=m.m.la
  rw [zLQ a (show i0<na by omega) (by omega)]
  exact ih (m.pushA sa (by omega) (by omega) fun j hj hjn=>hle (na - 1) (by omega) (by omega) (by omega) j hj hjn) (by omega) (fun i hi h1 h2=>hle i hi h1 (by omega)) (by omega)
theorem MidHO.manyB (sb:SA L b) {i0:Nat} (m:MidHO L a b out na nb) (h:i0≤nb) (hle:∀ (i:Nat) (hi:i<b.size),i0≤i→i<nb→∀ (j:Nat) (hj:j<a.size),j<na→L b[i] a[j]=false):MidHO L a b (out++(b.extract i0 nb).reverse) na i0:=by
 obtain ⟨d,hd⟩:∃ d,nb=i0+d:=⟨nb - i0,by omega⟩
 induction d generalizing nb out with
 | zero =>
  have e0:nb=i0:=by omega
  subst e0
  have e:out++(b.extract nb nb).reverse=out:=by
   have:b.extract nb nb=#[]:=by simp <;> omega
   rw [this]; simp
  rw [e]; exact m
 | succ d ih =>
  have lb:=m.m.lb
  rw [zLQ b (show i0<nb by omega) (by omega)]
  exact ih (m.pushB sb (by omega) (by omega) fun j hj hjn=>hle (nb - 1) (by omega) (by omega) (by omega) j hj hjn) (by omega) (fun i hi h1 h2=>hle i hi h1 (by omega)) (by omega)
theorem zLR (h:out.toList.Pairwise fun x y=>L x y=false):out.reverse.toList.Pairwise fun x y=>L y x=false:=by
 rw [Array.toList_reverse,List.pairwise_reverse]; exact h
theorem MidHO.doneA (m:MidHO L a b out na nb) (sb:SA L b) (h:na=0):(a.extract 0 na++b.extract 0 nb++out.reverse).toList.Pairwise fun x y=>L y x=false:=by
 have z:=zLR (m.manyB sb (i0:=0) (Nat.zero_le _) fun i hi h1 h2 j hj hjn=>by omega).so
 subst h
 simpa using z
theorem MidHO.doneB (m:MidHO L a b out na nb) (sa:SA L a) (h:nb=0):(a.extract 0 na++b.extract 0 nb++out.reverse).toList.Pairwise fun x y=>L y x=false:=by
 have z:=zLR (m.manyA sa (i0:=0) (Nat.zero_le _) fun i hi h1 h2 j hj hjn=>by omega).so
 subst h
 simpa using z
theorem MidHO.firstB (m:MidHO L a b out na nb) (sa:SA L a) (sb:SA L b) (h:nb=1) (hf:∀ (i:Nat) (hi:i<a.size),L a[i] (b[0]'(by have:=m.m.lb; omega))=false):(b.extract 0 nb++a.extract 0 na++out.reverse).toList.Pairwise fun x y=>L y x=false:=by
 have z1:=m.manyA sa (i0:=0) (Nat.zero_le _) fun i hi h1 h2 j hj hjn=>by
  have e:j=0:=by omega
  subst e
  exact hf i hi
 have z:=zLR (z1.manyB sb (i0:=0) (Nat.zero_le _) fun i hi h1 h2 j hj hjn=>by omega).so
 simpa using z
end
section
variable {prog:Program} {w:World} {A:Around} {E:Value→Shared→Prop} {s:Shared} {a₀:Array Keyed} {kd:SortKind} {L:Keyed→Keyed→Bool}
theorem via3 {α β γ δ:Type} {T:β→γ→δ→StateT SortSt Sem α} {M:Model} {A:Around} {E:Value→Shared→Prop} {s:Shared} {Q:α→SortSt→Prop} {st:SortSt} {goal:Prop} (P:β→γ→Prop) (h1:(∀ x y z,P x y→wpS M A E s (T x y z) Q st)→goal) (h2:∀ x y z,P x y→wpS M A E s (T x y z) Q st):goal:=h1 h2
theorem zIB {st:SortSt} {a b:Array Keyed} {Q:Array Keyed→SortSt→Prop} (hA:AskL prog w A s kd a₀ L) (O:Ord L a₀) (hk:kindOf st=kd) (ha:∀ x∈a,x∈a₀) (hb:∀ x∈b,x∈a₀) (na:1≤a.size) (nb:1≤b.size) (sa:SA L a) (sb:SA L b) (hf:∀ (i:Nat) (hi:i<a.size),L a[i] (b[0]'(by omega))=false) (hl:∀ (j:Nat) (hj:j<b.size),L (a[a.size - 1]'(by omega)) b[j]=false)
  (h:∀ c st',Gal st st'→c.Perm (a++b)→(c.toList.Pairwise fun x y=>L y x=false)→Q c st'):wpS (model prog w) A E s (zNE a b) Q st:=by
 refine wpS_bind (wpS_lift (wpAny_rule ⟨rfl,?_⟩))
 dsimp only
 refine bElem (by omega) ?_
 have m0:MidHO L a b #[a[a.size - 1]] (a.size - 1) b.size:=by
  have z:MidHO L a b #[] a.size b.size:=⟨⟨by rw [List.take_of_length_le (by simp),List.take_of_length_le (by simp)]; simp,by omega,by omega,by simp⟩,List.Pairwise.nil,fun x hx=>by simp at hx,fun x hx=>by simp at hx⟩
  exact z.pushA sa (by omega) (by omega) fun j hj _=>hl j hj
 refine zAJ (fun e1=>?_) (fun e1=>?_)
 ·exact wpS_pure (h _ _ (Gal.refl st) m0.m.done (m0.doneA sb (beq_iff_eq.mp e1)))
 refine zAJ (fun e2=>?_) (fun e2=>?_)
 ·exact wpS_pure (h _ _ (Gal.refl st) m0.m.firstB (m0.firstB sa sb (beq_iff_eq.mp e2) hf))
 have e1':¬ (a.size - 1=0):=fun z=>e1 (beq_iff_eq.mpr z)
 have e2':¬ (b.size=1):=fun z=>e2 (beq_iff_eq.mpr z)
 refine wpS_bind (wpS_get ?_)
 refine zFC
  (I:=fun i c st'=>Gal st st'∧∃ na nb out g,c=(none,na,nb,out,g)∧MidHO L a b out na nb∧1≤na∧2≤nb∧i+1≤out.size)
  (R:=fun c st'=>Gal st st'∧∃ r na nb out g,c=(some r,na,nb,out,g)∧(r.Perm (a++b)∧r.toList.Pairwise fun x y=>L y x=false)) ?step ?fin ?init ?post
 case init=>exact ⟨Gal.refl st,_,_,_,_,rfl,m0,by omega,by omega,by simp⟩
 case post =>
  intro c st' H
  refine exq5 (c:=c) H fun g r ia ib out gg p=>?_
  clear H
  exact wpS_pure (h _ _ g p.1 p.2)
 case fin =>
  intro c st' H
  refine exq4 (c:=c) H fun g na nb out gg P=>?_
  clear H
  have m:=P.1
  have h1:=P.2.1
  have h2:=P.2.2.1
  have h3:=P.2.2.2
  clear P
  exfalso
  have:=m.m.sz
  omega
 case step =>
  intro i c st' _ hi H
  refine exq4 (c:=c) H fun g na nb out gg P=>?_
  clear H
  have m:=P.1
  have h1:=P.2.1
  have h2:=P.2.2.1
  have h3:=P.2.2.2
  clear P
  dsimp only
  have tot:0<a.size+b.size:=by omega
  refine zFC
   (I:=fun _ c st2=>Gal st st2∧∃ na nb out ac bc,c=(none,na,nb,out,ac,bc)∧MidHO L a b out na nb∧1≤na∧2≤nb∧i+1≤out.size)
   (R:=fun c st2=>Gal st st2∧∃ r na nb out ac bc,c=(r,na,nb,out,ac,bc)∧(match r with
    | some r=>(r.Perm (a++b)∧r.toList.Pairwise fun x y=>L y x=false)
    | none=>MidHO L a b out na nb∧1≤na∧2≤nb∧i+1≤out.size)) ?step1 ?fin1 ⟨g,_,_,_,_,_,rfl,m,h1,h2,h3⟩ ?post1
  case fin1 =>
   intro c st2 H
   refine exq5 (c:=c) H fun g2 na nb out ac bc P=>?_
   clear H
   have m:=P.1
   have h1:=P.2.1
   have h2:=P.2.2.1
   have h3:=P.2.2.2
   clear P
   exact ⟨g2,none,_,_,_,_,_,rfl,m,h1,h2,h3⟩
  case step1 =>
   intro j c st2 _ hj H
   refine exq5 (c:=c) H fun g2 na nb out ac bc P=>?_
   clear H
   have m:=P.1
   have h1:=P.2.1
   have h2:=P.2.2.1
   have h3:=P.2.2.2
   clear P
   dsimp only
   have la:=m.m.la
   have lb:=m.m.lb
   refine bElem (by omega) (bElem (by omega) (bLtL hA (g2.kind hk) (hb _ (Array.getElem_mem _)) (ha _ (Array.getElem_mem _)) ?_))
   have hia:na - 1<a.size:=by omega
   have hib:nb - 1<b.size:=by omega
   refine zAJ (fun ew=>?_) (fun ew=>?_)
   ·refine bElem hia ?_
    have m2:=m.pushA sa h1 hia fun j hj hjn=>O.trans _ _ _ (hb _ (Array.getElem_mem hj)) (hb _ (Array.getElem_mem hib)) (ha _ (Array.getElem_mem hia)) (sb.le O hb hib (by omega)) (O.asym _ _ (hb _ (Array.getElem_mem hib)) (ha _ (Array.getElem_mem hia)) ew)
    have hs2:i+1≤(out.push a[na - 1]).size:=by rw [Array.size_push]; omega
    refine zAJ (fun q=>wpS_pure ⟨g2,some _,_,_,_,_,_,rfl,m2.m.done,m2.doneA sb (beq_iff_eq.mp q)⟩) (fun q=>?_)
    have h1':1≤na - 1:=Nat.pos_of_ne_zero fun z=>q (beq_iff_eq.mpr z)
    refine zAJ (fun q=>?_) (fun q=>?_)
    ·exact wpS_pure ⟨g2,none,_,_,_,_,_,rfl,m2,h1',h2,hs2⟩
    ·exact wpS_pure ⟨g2,_,_,_,_,_,rfl,m2,h1',h2,hs2⟩
   ·refine bElem hib ?_
    have m2:=m.pushB sb (by omega) hib fun j hj hjn=>O.trans _ _ _ (ha _ (Array.getElem_mem hj)) (ha _ (Array.getElem_mem hia)) (hb _ (Array.getElem_mem hib)) (sa.le O ha hia (by omega)) (Bool.eq_false_iff.mpr ew)
    have hs2:i+1≤(out.push b[nb - 1]).size:=by rw [Array.size_push]; omega
    refine zAJ (fun q=>wpS_pure ⟨g2,some _,_,_,_,_,_,rfl,m2.m.firstB,m2.firstB sa sb (beq_iff_eq.mp q) hf⟩) (fun q=>?_)
    have h2':2≤nb - 1:=by
     have q':¬ (nb - 1=1):=fun z=>q (beq_iff_eq.mpr z)
     omega
    refine zAJ (fun q=>?_) (fun q=>?_)
    ·exact wpS_pure ⟨g2,none,_,_,_,_,_,rfl,m2,h1,h2',hs2⟩
    ·exact wpS_pure ⟨g2,_,_,_,_,_,rfl,m2,h1,h2',hs2⟩
  case post1 =>
   intro c st2 H
   refine exq6 (c:=c) H fun g2 r na nb out ac bc hr=>?_
   clear H
   cases r with
   | some r=>exact wpS_pure ⟨g2,r,_,_,_,_,rfl,hr⟩
   | none =>
    have m:=hr.1
    have h1:=hr.2.1
    have h2:=hr.2.2.1
    have h3:=hr.2.2.2
    clear hr
    dsimp only
    refine wpS_bind (wpS_lift (wpAny_rule ⟨rfl,?_⟩))
    refine zFC
     (I:=fun j c st3=>Gal st st3∧∃ na nb out gg ac bc,c=(none,na,nb,out,gg,ac,bc)∧MidHO L a b out na nb∧1≤na∧2≤nb∧i+1+(if j=0 then 0 else 1)≤out.size)
     (R:=fun c st3=>Gal st st3∧∃ r na nb out gg ac bc,c=(r,na,nb,out,gg,ac,bc)∧(match r with
      | some r=>(r.Perm (a++b)∧r.toList.Pairwise fun x y=>L y x=false)
      | none=>MidHO L a b out na nb∧1≤na∧2≤nb∧i+2≤out.size)) ?step2 ?fin2 ⟨g2,_,_,_,_,_,_,rfl,m,h1,h2,by simpa using h3⟩ ?post2
    case fin2 =>
     intro c st3 H
     refine exq6 (c:=c) H fun g3 na nb out gg ac bc P=>?_
     clear H
     have m:=P.1
     have h1:=P.2.1
     have h2:=P.2.2.1
     have h3:=P.2.2.2
     clear P
     rw [if_neg (by omega)] at h3
     exact ⟨g3,none,_,_,_,_,_,_,rfl,m,h1,h2,h3⟩
    case step2 =>
     intro j c st3 _ hj H
     refine exq6 (c:=c) H fun g3 na nb out gg ac bc P=>?_
     clear H
     have m:=P.1
     have h1:=P.2.1
     have h2:=P.2.2.1
     have h3:=P.2.2.2
     clear P
     replace h3:i+1≤out.size:=by
      split at h3 <;> omega
     dsimp only
     have la:=m.m.la
     have lb:=m.m.lb
     refine via1 (fun K=>by
      refine zAJ (fun hg=>?gpos) (fun hg=>?gneg)
      case gneg =>
       generalize gg=g'
       exact K g'
      case gpos=>exact K (gg - 1)) (fun gg=>?_)
     refine bGal ?_
     refine bElem (by omega) (bGle hA O ((g3.set _).kind hk) (hb _ (Array.getElem_mem _)) ha (by omega) (by omega) (fun i j hj hij _=>sa (0+i) (0+j) hj (by omega)) fun k hk' c1 c2=>?_)
     have hib:nb - 1<b.size:=by omega
     have c1':∀ (i:Nat) (hi:i<a.size),i<k→L b[nb - 1] a[i]=false:=fun i hi hik=>by
      have z:=c1 i (by omega) hik
      simpa using z
     dsimp only
     refine via3 (fun (out:Array Keyed) (na:Nat)=>MidHO L a b out na nb∧1≤na∧i+1≤out.size∧∀ (i:Nat) (hi:i<a.size),i<na→L b[nb - 1] a[i]=false) (fun K=>by
      by_cases hk0:¬ (na - k > 0)
      ·rw [if_neg hk0]
       have hP:MidHO L a b out na nb∧1≤na∧i+1≤out.size∧∀ (i:Nat) (hi:i<a.size),i<na→L b[nb - 1] a[i]=false:=⟨m,h1,h3,fun i hi hik=>c1' i hi (by omega)⟩
       revert hP
       generalize na - k=ac'
       generalize out=out',na=na'
       exact fun hP=>K out' na' ac' hP
      ·rw [if_pos (Decidable.not_not.mp hk0)]
       replace m:=m.manyA sa hk' fun i hi h1' h2' j hj hjn=>O.trans _ _ _ (hb _ (Array.getElem_mem hj)) (hb _ (Array.getElem_mem hib)) (ha _ (Array.getElem_mem hi)) (sb.le O hb hib (by omega)) (O.asym _ _ (hb _ (Array.getElem_mem hib)) (ha _ (Array.getElem_mem hi)) (by
        have z:=c2 i (by omega) h1' h2'
        simpa using z))
       refine zAJ (fun q1=>wpS_pure ⟨g3.set _,some _,_,_,_,_,_,_,rfl,m.m.done,m.doneA sb (beq_iff_eq.mp q1)⟩) (fun q1=>?_)
       replace q1:¬ (k=0):=fun z=>q1 (beq_iff_eq.mpr z)
       exact K _ _ _ ⟨m,by omega,by rw [Array.size_append]; omega,c1'⟩) ?_
     clear c1 c2 c1' m h1 h3 hk' la
     intro out na ac P
     have m:=P.1
     have h1:=P.2.1
     have h3:=P.2.2.1
     have c1':=P.2.2.2
     clear P
     refine bElem (by omega) ?_
     have hs0:=m.m.sz
     have la:=m.m.la
     replace m:=m.pushB sb (by omega) (by omega) c1'
     have hs:=m.m.sz
     refine zAJ (fun q3=>wpS_pure ⟨g3.set _,some _,_,_,_,_,_,_,rfl,m.m.firstB,m.firstB sa sb (beq_iff_eq.mp q3) hf⟩) (fun q3=>?_)
     have q3':¬ (nb - 1=1):=fun z=>q3 (beq_iff_eq.mpr z)
     refine bElem (by omega) (bGlt hA O ((g3.set _).kind hk) (ha _ (Array.getElem_mem _)) hb (by omega) (by omega) (fun i j hj hij _=>sb (0+i) (0+j) hj (by omega)) fun k2 hk2 d1 d2=>?_)
     have hia:na - 1<a.size:=by omega
     have d1':∀ (j:Nat) (hj:j<b.size),j<k2→L a[na - 1] b[j]=false:=fun j hj hjn=>O.asym _ _ (hb _ (Array.getElem_mem hj)) (ha _ (Array.getElem_mem _)) (by
      have z:=d1 j (by omega) hjn
      simpa using z)
     dsimp only
     refine via3 (fun (out:Array Keyed) (nb:Nat)=>MidHO L a b out na nb∧2≤nb∧i+2≤out.size∧∀ (j:Nat) (hj:j<b.size),j<nb→L a[na - 1] b[j]=false) (fun K=>by
      by_cases hk1:¬ (nb - 1 - k2 > 0)
      ·rw [if_neg hk1]
       have hP:MidHO L a b (out.push b[nb - 1]) na (nb - 1)∧2≤nb - 1∧i+2≤(out.push b[nb - 1]).size∧∀ (j:Nat) (hj:j<b.size),j<nb - 1→L a[na - 1] b[j]=false:=⟨m,by omega,by rw [Array.size_push]; omega,fun j hj hjn=>d1' j hj (by omega)⟩
       revert hP
       generalize nb - 1 - k2=bc'
       generalize out.push b[nb - 1]=out'
       generalize nb - 1=nb'
       exact fun hP=>K out' nb' bc' hP
      ·rw [if_pos (Decidable.not_not.mp hk1)]
       replace m:=m.manyB sb hk2 fun i hi h1' h2' j hj hjn=>O.trans _ _ _ (ha _ (Array.getElem_mem hj)) (ha _ (Array.getElem_mem hia)) (hb _ (Array.getElem_mem hi)) (sa.le O ha hia (by omega)) (by
        have z:=d2 i (by omega) h1' h2'
        simpa using z)
       refine zAJ (fun q4=>wpS_pure ⟨g3.set _,some _,_,_,_,_,_,_,rfl,m.m.firstB,m.firstB sa sb (beq_iff_eq.mp q4) hf⟩) (fun q4=>?_)
       replace q4:¬ (k2=1):=fun z=>q4 (beq_iff_eq.mpr z)
       refine zAJ (fun q5=>wpS_pure ⟨g3.set _,some _,_,_,_,_,_,_,rfl,m.m.done,m.doneB sa (beq_iff_eq.mp q5)⟩) (fun q5=>?_)
       replace q5:¬ (k2=0):=fun z=>q5 (beq_iff_eq.mpr z)
       exact K _ _ _ ⟨m,by omega,by rw [Array.size_append,Array.size_push]; omega,d1'⟩) ?_
     clear d1 d2 d1' hk2 m hs hs0 h3 c1'
     intro out nb' bc P
     have m:=P.1
     have h2':=P.2.1
     have h3:=P.2.2.1
     have d1':=P.2.2.2
     clear P
     refine bElem (by omega) ?_
     have hs2:=m.m.sz
     replace m:=m.pushA sa (by omega) (by omega) d1'
     have hs3:=m.m.sz
     refine zAJ (fun q6=>wpS_pure ⟨g3.set _,some _,_,_,_,_,_,_,rfl,m.m.done,m.doneA sb (beq_iff_eq.mp q6)⟩) (fun q6=>?_)
     have q6':¬ (na - 1=0):=fun z=>q6 (beq_iff_eq.mpr z)
     refine zAJ (fun q7=>?_) (fun q7=>?_)
     ·exact wpS_pure ⟨g3.set _,none,_,_,_,_,_,_,rfl,m,by omega,h2',by omega⟩
     ·exact wpS_pure ⟨g3.set _,_,_,_,_,_,_,rfl,m,by omega,h2',by rw [if_neg (by omega)]; omega⟩
    case post2 =>
     intro c st3 H
     refine exq7 (c:=c) H fun g3 r na nb out gg ac bc hr=>?_
     clear H
     cases r with
     | some r=>exact wpS_pure ⟨g3,r,_,_,_,_,rfl,hr⟩
     | none =>
      have m:=hr.1
      have h1:=hr.2.1
      have h2:=hr.2.2.1
      have h3:=hr.2.2.2
      clear hr
      exact bGal (wpS_pure ⟨g3.set _,_,_,_,_,rfl,m,h1,h2,h3⟩)
end
end TS
namespace TS
open PySem PyProof.Rows
noncomputable def Seg (L:Keyed→Keyed→Bool) (a:Array Keyed) (i n:Nat):Prop:=∀ (p q:Nat) (hq:q<a.size) (hpq:p<q),i≤p→q<i+n→L a[q] (a[p]'(by omega))=false
theorem zP8 {a c:Array Keyed} {sa:Nat} (h:sa+c.size≤a.size):(c.toList.zipIdx.foldl (fun a (p:Keyed × Nat)=>a.setIfInBounds (sa+p.2) p.1) a).size=a.size ∧
  ∀ (p:Nat) (hp:p<(c.toList.zipIdx.foldl (fun a (p:Keyed × Nat)=>a.setIfInBounds (sa+p.2) p.1) a).size) (hp':p<a.size),
   (c.toList.zipIdx.foldl (fun a (p:Keyed × Nat)=>a.setIfInBounds (sa+p.2) p.1) a)[p]=if h:sa≤p∧p - sa<c.size then c[p - sa]'h.2 else a[p]:=by
 have e:=zLF c.toList a sa 0 (by simpa using h)
 generalize c.toList.zipIdx.foldl (fun a (p:Keyed × Nat)=>a.setIfInBounds (sa+p.2) p.1) a=r at e ⊢
 rw [show sa+0=sa by omega] at e
 have hs:r.size=a.size:=by
  have:=congrArg List.length e
  simp at this
  omega
 refine ⟨hs,fun p hp hp'=>?_⟩
 have e2:r.toList[p]?=(a.toList.take sa++c.toList++a.toList.drop (sa+c.toList.length))[p]?:=by rw [e]
 rw [Array.getElem?_toList,getElem?_pos r p hp] at e2
 have hl:(a.toList.take sa).length=sa:=by simp; omega
 by_cases h1:p<sa
 ·rw [dif_neg (by omega)]
  rw [List.append_assoc,List.getElem?_append_left (by omega),List.getElem?_take_of_lt h1,Array.getElem?_toList,getElem?_pos a p hp'] at e2
  exact Option.some.inj e2
 ·by_cases h2:p - sa<c.size
  ·rw [dif_pos ⟨by omega,h2⟩]
   rw [List.append_assoc,List.getElem?_append_right (by omega),hl,List.getElem?_append_left (by simpa using h2),Array.getElem?_toList,getElem?_pos c (p - sa) h2] at e2
   exact Option.some.inj e2
  ·rw [dif_neg (by omega)]
   rw [List.append_assoc,List.getElem?_append_right (by omega),hl,List.getElem?_append_right (by simp; omega),List.getElem?_drop] at e2
   rw [show sa+c.toList.length+(p - sa - c.toList.length)=p by simp; omega,Array.getElem?_toList,getElem?_pos a p hp'] at e2
   exact Option.some.inj e2
section
variable {prog:Program} {w:World} {A:Around} {E:Value→Shared→Prop} {s:Shared} {a₀:Array Keyed} {kd:SortKind} {L:Keyed→Keyed→Bool}
theorem zIC {a:Array Keyed} {i j:Nat} {x:Keyed} (hx:x∈a.extract i j):∃ (p:Nat) (hp:p<a.size),i≤p∧p<j∧x=a[p]:=by
 rw [Array.mem_iff_getElem] at hx
 obtain ⟨k,hk,rfl⟩:=hx
 rw [Array.size_extract] at hk
 exact ⟨i+k,by omega,by omega,by omega,by simp⟩
theorem cutP {P goal:Prop} (h1:P→goal) (h2:P):goal:=h1 h2
theorem zID {st:SortSt} {i sa na sb nb pa pb:Nat} {Q:Bool→SortSt→Prop} (hA:AskL prog w A s kd a₀ L) (O:Ord L a₀) (hB:SB a₀ kd st) (e1:(pendingOf st)[i]?=some (sa,na,pa)) (e2:(pendingOf st)[i+1]?=some (sb,nb,pb))
  (h1:1≤na) (h2:1≤nb) (hsb:sb=sa+na) (hz:sb+nb≤a₀.size) (ga:Seg L (arrOf st) sa na) (gb:Seg L (arrOf st) sb nb)
  (h:∀ st',SB a₀ kd st'→pendingOf st'=((pendingOf st).setIfInBounds i (sa,na+nb,pa)).eraseIdxIfInBounds (i+1)→Seg L (arrOf st') sa (na+nb) →
   (∀ (p:Nat) (hp:p<(arrOf st').size) (hp':p<(arrOf st).size),p<sa∨sa+(na+nb)≤p→(arrOf st')[p]=(arrOf st)[p])→Q true st') :
  wpS (model prog w) A E s (mergeAt' i) Q st:=by
 refine wpS_bind (wpS_get ?_)
 rw [e1,e2]
 dsimp only
 have hsz:=hB.size
 have hall:∀ x∈arrOf st,x∈a₀:=fun x hx=>hB.perm.mem_iff.mp hx
 have mm:∀ (p:Nat) (hp:p<(arrOf st).size),(arrOf st)[p]∈a₀:=fun p hp=>hall _ (Array.getElem_mem hp)
 refine wpS_bind (zP0 ?_)
 have hB2:SB a₀ kd (setPending st (((pendingOf st).setIfInBounds i (sa,na+nb,pa)).eraseIdxIfInBounds (i+1))):=⟨hB.perm,hB.kind,hB.failed⟩
 have hsb0:sb<(arrOf st).size:=by omega
 -- b's first is at most the others of b; a's last is at least the others of a
 have b0:∀ (q:Nat) (hq:q<(arrOf st).size),sb≤q→q<sb+nb→L (arrOf st)[q] (arrOf st)[sb]=false:=fun q hq h3 h4=>by
  rcases Nat.lt_or_eq_of_le h3 with z | z
  ·exact gb sb q hq z (Nat.le_refl _) h4
  ·subst z; exact O.refl (mm _ _)
 have hal:sa+na - 1<(arrOf st).size:=by omega
 have aL:∀ (p:Nat) (hp:p<(arrOf st).size),sa≤p→p<sa+na→L (arrOf st)[sa+na - 1] (arrOf st)[p]=false:=fun p hp h3 h4=>by
  rcases Nat.lt_or_eq_of_le (show p≤sa+na - 1 by omega) with z | z
  ·exact ga p (sa+na - 1) hal z h3 (by omega)
  ·subst z; exact O.refl (mm _ _)
 refine wpS_bind (zCT (arr:=arrOf st) (by omega) (wpS_bind (zHA (arr:=arrOf st) hA O hB2.kind (hall _ (Array.getElem_mem _)) hall (by omega) (by omega) (fun i j hj hij hjn=>ga (sa+i) (sa+j) hj (by omega) (by omega) (by omega)) fun k hk c1 c2=>?_)))
 have c1':∀ (p:Nat) (hp:p<(arrOf st).size),sa≤p→p<sa+k→L (arrOf st)[sb] (arrOf st)[p]=false:=fun p hp h3 h4=>by
  have z:=c1 (p - sa) (by omega) (by omega)
  simpa [show sa+(p - sa)=p by omega] using z
 have c2':∀ (p:Nat) (hp:p<(arrOf st).size),sa+k≤p→p<sa+na→L (arrOf st)[sb] (arrOf st)[p]=true:=fun p hp h3 h4=>by
  have z:=c2 (p - sa) (by omega) (by omega) (by omega)
  simpa [show sa+(p - sa)=p by omega] using z
 dsimp only
 refine zAJ (fun q=>?_) (fun q=>?_)
 ·have q':na - k=0:=beq_iff_eq.mp q
  refine wpS_pure (h _ hB2 rfl (fun p r hr hpr h3 h4=>?_) fun p hp hp' _=>rfl)
  by_cases ha':r<sa+na
  ·exact ga p r hr hpr h3 ha'
  ·by_cases hb':sb≤p
   ·exact gb p r hr hpr hb' (by omega)
   ·exact O.trans _ _ _ (mm p (by omega)) (mm sb hsb0) (mm r hr) (c1' p (by omega) h3 (by omega)) (b0 r hr (by omega) (by omega))
 have q':¬ (na - k=0):=fun z=>q (beq_iff_eq.mpr z)
 refine wpS_bind (zCT (arr:=arrOf st) (by omega) (wpS_bind (zHB (arr:=arrOf st) hA O hB2.kind (hall _ (Array.getElem_mem _)) hall (by omega) (by omega) (fun i j hj hij hjn=>gb (sb+i) (sb+j) hj (by omega) (by omega) (by omega)) fun m hm d1 d2=>?_)))
 have eal:sa+k+(na - k) - 1=sa+na - 1:=by omega
 have d1':∀ (r:Nat) (hr:r<(arrOf st).size),sb≤r→r<sb+m→L (arrOf st)[r] (arrOf st)[sa+na - 1]=true:=fun r hr h3 h4=>by
  have z:=d1 (r - sb) (by omega) (by omega)
  simpa [show sb+(r - sb)=r by omega,eal] using z
 have d2':∀ (r:Nat) (hr:r<(arrOf st).size),sb+m≤r→r<sb+nb→L (arrOf st)[r] (arrOf st)[sa+na - 1]=false:=fun r hr h3 h4=>by
  have z:=d2 (r - sb) (by omega) (by omega) (by omega)
  simpa [show sb+(r - sb)=r by omega,eal] using z
 dsimp only
 refine zAJ (fun r=>?_) (fun r=>?_)
 ·have r':m=0:=beq_iff_eq.mp r
  refine wpS_pure (h _ hB2 rfl (fun p r hr hpr h3 h4=>?_) fun p hp hp' _=>rfl)
  by_cases ha':r<sa+na
  ·exact ga p r hr hpr h3 ha'
  ·by_cases hb':sb≤p
   ·exact gb p r hr hpr hb' (by omega)
   ·exact O.trans _ _ _ (mm p (by omega)) (mm _ hal) (mm r hr) (aL p (by omega) h3 (by omega)) (d2' r hr (by omega) (by omega))
 have r':¬ (m=0):=fun z=>r (beq_iff_eq.mpr z)
 have ex:∀ i j x,x∈(arrOf st).extract i j→x∈a₀:=fun i j x hx=>by
  obtain ⟨p,hp,_,_,rfl⟩:=zIC hx
  exact mm p hp
 have zx:((arrOf st).extract (sa+k) sb).size=na - k:=by rw [Array.size_extract]; omega
 have zy:((arrOf st).extract sb (sb+m)).size=m:=by rw [Array.size_extract]; omega
 have sx:SA L ((arrOf st).extract (sa+k) sb):=fun i j hj hij=>by
  rw [zx] at hj
  simpa using ga (sa+k+i) (sa+k+j) (by omega) (by omega) (by omega) (by omega)
 have sy:SA L ((arrOf st).extract sb (sb+m)):=fun i j hj hij=>by
  rw [zy] at hj
  simpa using gb (sb+i) (sb+j) (by omega) (by omega) (by omega) (by omega)
 have hf:∀ (i:Nat) (hi:i<((arrOf st).extract (sa+k) sb).size),L ((arrOf st).extract (sa+k) sb)[i] (((arrOf st).extract sb (sb+m))[0]'(by omega))=false:=fun i hi=>by
  have z:=O.asym _ _ (mm sb hsb0) (mm (sa+k+i) (by omega)) (c2' (sa+k+i) (by omega) (by omega) (by omega))
  simpa using z
 have hl:∀ (j:Nat) (hj:j<((arrOf st).extract sb (sb+m)).size),L (((arrOf st).extract (sa+k) sb)[((arrOf st).extract (sa+k) sb).size - 1]'(by omega)) ((arrOf st).extract sb (sb+m))[j]=false:=fun j hj=>by
  have z:=O.asym _ _ (mm (sb+j) (by omega)) (mm (sa+na - 1) hal) (d1' (sb+j) (by omega) (by omega) (by omega))
  simpa [zx,show sa+k+(na - k - 1)=sa+na - 1 by omega] using z
 refine cutP (fun K=>zAJ (fun _=>wpS_bind (zIA (a:=(arrOf st).extract (sa+k) sb) (b:=(arrOf st).extract sb (sb+m)) hA O hB2.kind (ex _ _) (ex _ _) (by omega) (by omega) sx sy hf hl K)) (fun _=>wpS_bind (zIB (a:=(arrOf st).extract (sa+k) sb) (b:=(arrOf st).extract sb (sb+m)) hA O hB2.kind (ex _ _) (ex _ _) (by omega) (by omega) sx sy hf hl K))) ?_
 rintro c st' ⟨g,rfl⟩ hp hpw
 refine wpS_bind (wpS_modify (wpS_bind (wpS_get (wpS_pure ?_))))
 have hn:(failedOf st).isNone=true:=by rw [hB.failed]; rfl
 show Q (failedOf st).isNone _
 rw [hn]
 have hcs:c.size=na - k+m:=by rw [hp.size_eq,Array.size_append,zx,zy]
 obtain ⟨os,oat⟩:=zP8 (a:=arrOf st) (c:=c) (sa:=sa+k) (by omega)
 have cmem:∀ (j:Nat) (hj:j<c.size),(∃ (p:Nat) (hp:p<(arrOf st).size),sa+k≤p∧p<sb∧c[j]=(arrOf st)[p])∨∃ (p:Nat) (hp:p<(arrOf st).size),sb≤p∧p<sb+m∧c[j]=(arrOf st)[p]:=fun j hj=>by
  have hx:c[j]∈(arrOf st).extract (sa+k) sb++(arrOf st).extract sb (sb+m):=hp.mem_iff.mp (Array.getElem_mem hj)
  rcases Array.mem_append.mp hx with hx | hx
  ·exact .inl (zIC hx)
  ·exact .inr (zIC hx)
 refine h _ ⟨(zLG (by omega) (by omega) hp).trans hB.perm,hB.kind,hB.failed⟩ rfl (fun p r hr hpr h3 h4=>?_) fun p hpp hpp' hor=>?_
 ·have hr':r<(arrOf st).size:=by rw [← os]; exact hr
  show L (_:Array Keyed)[r] (_:Array Keyed)[p]=false
  rw [oat r hr hr',oat p (by omega) (by omega)]
  by_cases hp1:p<sa+k
  ·rw [dif_neg (show ¬ (sa+k≤p∧p - (sa+k)<c.size) by omega)]
   by_cases hr1:r<sa+k
   ·rw [dif_neg (show ¬ (sa+k≤r∧r - (sa+k)<c.size) by omega)]
    exact ga p r hr' hpr h3 (by omega)
   ·by_cases hr2:r - (sa+k)<c.size
    ·rw [dif_pos (show sa+k≤r∧r - (sa+k)<c.size from ⟨by omega,hr2⟩)]
     rcases cmem _ hr2 with ⟨u,hu,u1,u2,eu⟩ | ⟨u,hu,u1,u2,eu⟩
     ·rw [eu]; exact ga p u hu (by omega) h3 (by omega)
     ·rw [eu]; exact O.trans _ _ _ (mm p (by omega)) (mm sb hsb0) (mm u hu) (c1' p (by omega) h3 hp1) (b0 u hu u1 (by omega))
    ·rw [dif_neg (show ¬ (sa+k≤r∧r - (sa+k)<c.size) by omega)]
     exact O.trans _ _ _ (mm p (by omega)) (mm sb hsb0) (mm r hr') (c1' p (by omega) h3 hp1) (b0 r hr' (by omega) (by omega))
  ·by_cases hp2:p - (sa+k)<c.size
   ·rw [dif_pos (show sa+k≤p∧p - (sa+k)<c.size from ⟨by omega,hp2⟩)]
    by_cases hr2:r - (sa+k)<c.size
    ·rw [dif_pos (show sa+k≤r∧r - (sa+k)<c.size from ⟨by omega,hr2⟩)]
     have z:=List.pairwise_iff_getElem.mp hpw (p - (sa+k)) (r - (sa+k)) (by simpa using hp2) (by simpa using hr2) (by omega)
     simpa using z
    ·rw [dif_neg (show ¬ (sa+k≤r∧r - (sa+k)<c.size) by omega)]
     rcases cmem _ hp2 with ⟨u,hu,u1,u2,eu⟩ | ⟨u,hu,u1,u2,eu⟩
     ·rw [eu]; exact O.trans _ _ _ (mm u hu) (mm _ hal) (mm r hr') (aL u hu (by omega) (by omega)) (d2' r hr' (by omega) (by omega))
     ·rw [eu]; exact gb u r hr' (by omega) u1 (by omega)
   ·rw [dif_neg (show ¬ (sa+k≤p∧p - (sa+k)<c.size) by omega),dif_neg (show ¬ (sa+k≤r∧r - (sa+k)<c.size) by omega)]
    exact gb p r hr' hpr (by omega) (by omega)
 ·show (_:Array Keyed)[p]=_
  rw [oat p hpp hpp',dif_neg (show ¬ (sa+k≤p∧p - (sa+k)<c.size) by omega)]
end
end TS
namespace TS
open PySem PyProof.Rows
theorem seg_iff {L:Keyed→Keyed→Bool} {a:Array Keyed} {i n:Nat}:Seg L a i n↔∀ p q x y,p<q→i≤p→q<i+n→a[p]?=some x→a[q]?=some y→L y x=false:=by
 constructor
 ·intro h p q x y hpq hi hq ex ey
  obtain ⟨h1,rfl⟩:=Array.getElem?_eq_some_iff.mp ex
  obtain ⟨h2,rfl⟩:=Array.getElem?_eq_some_iff.mp ey
  exact h p q h2 hpq hi hq
 ·intro h p q hq hpq hi hn
  exact h p q _ _ hpq hi hn (getElem?_pos a p (by omega)) (getElem?_pos a q hq)
section
variable {prog:Program} {w:World} {A:Around} {E:Value→Shared→Prop} {s:Shared} {a₀:Array Keyed} {kd:SortKind} {L:Keyed→Keyed→Bool}
theorem zB7 {st:SortSt} {i j:Nat} {Q:Option Bool→SortSt→Prop} (hA:AskL prog w A s kd a₀ L) (hB:SB a₀ kd st) (hi:i<(arrOf st).size) (hj:j<(arrOf st).size) (h:Q (some (L (arrOf st)[i] (arrOf st)[j])) st) :
  wpS (model prog w) A E s (ltAt' i j) Q st:=by
 rw [ltAt'_eq]
 refine wpS_bind (wpS_get ?_)
 exact wpS_bind (zCT hi (wpS_bind (zCT hj (zF4 hA hB.kind (hB.mem hi) (hB.mem hj) h))))
theorem zEZ {st:SortSt} {lo n ok:Nat} {Q:Bool→SortSt→Prop} (hA:AskL prog w A s kd a₀ L) (O:Ord L a₀) (hn:lo+n≤a₀.size) (hok:ok≤n) (h1:1≤n) (hB:SB a₀ kd st) (hs:Seg L (arrOf st) lo ok)
  (h:∀ st',SB a₀ kd st'→pendingOf st'=pendingOf st→Seg L (arrOf st') lo n→(∀ p,p<lo→(arrOf st')[p]?=(arrOf st)[p]?)→Q true st'):wpS (model prog w) A E s (binarySort' lo n ok) Q st:=by
 rw [binarySort'_eq]
 refine wpS_bind (wpS_mono (wpS_forRange (I:=fun k c st'=>c=(none,())∧SB a₀ kd st'∧pendingOf st'=pendingOf st∧Seg L (arrOf st') lo k∧∀ p,p<lo→(arrOf st')[p]?=(arrOf st)[p]?)
  (Q:=fun c st'=>c=(none,())∧SB a₀ kd st'∧pendingOf st'=pendingOf st∧Seg L (arrOf st') lo n∧∀ p,p<lo→(arrOf st')[p]?=(arrOf st)[p]?) ?step ?fin ⟨rfl,hB,rfl,?ini,fun _ _=>rfl⟩) ?post)
 case ini =>
  intro p q hq hpq hp hqn
  exact hs p q hq hpq hp (by omega)
 case fin =>
  rintro c st' ⟨e,hB',hp,hs',ho⟩
  refine ⟨e,hB',hp,fun p q hq hpq hp hqn=>hs' p q hq hpq hp ?_,ho⟩
  omega
 case post =>
  rintro c st' ⟨rfl,hB',hp,hs',ho⟩
  exact wpS_pure (h st' hB' hp hs' ho)
 case step =>
  rintro k c st' hak hkn ⟨rfl,hB',hp,hs',ho⟩
  have hsz:=hB'.size
  have hk':lo+k<(arrOf st').size:=by omega
  have mm:∀ (p:Nat) (hp:p<(arrOf st').size),(arrOf st')[p]∈a₀:=fun p hp=>hB'.mem hp
  refine wpS_bind (wpS_mono (wpS_forRange (I:=fun x c st''=>st''=st'∧∃ l r,c=(none,l,r)∧l≤r∧r≤k∧(∀ (p:Nat) (hp:lo+p<(arrOf st').size),p<l→L (arrOf st')[lo+k] (arrOf st')[lo+p]=false)∧(∀ (p:Nat) (hp:lo+p<(arrOf st').size),r≤p→p<k→L (arrOf st')[lo+k] (arrOf st')[lo+p]=true)∧r - l+x≤k)
   (Q:=fun c st''=>st''=st'∧∃ l r,c=(none,l,r)∧l≤k∧(∀ (p:Nat) (hp:lo+p<(arrOf st').size),p<l→L (arrOf st')[lo+k] (arrOf st')[lo+p]=false)∧(∀ (p:Nat) (hp:lo+p<(arrOf st').size),l≤p→p<k→L (arrOf st')[lo+k] (arrOf st')[lo+p]=true)) ?istep
   (fun c st'' ⟨e,l,r,e2,q1,q2,q3,q4,q5⟩=>⟨e,l,r,e2,by omega,q3,fun p hp h1 h2=>q4 p hp (by omega) h2⟩) ⟨rfl,0,k,rfl,Nat.zero_le _,Nat.le_refl _,fun p hp h=>by omega,fun p hp h1 h2=>by omega,by omega⟩) ?ipost)
  case istep =>
   rintro x c st'' _ hxk ⟨rfl,l,r,rfl,q1,q2,q3,q4,q5⟩
   dsimp only
   by_cases hge:l ≥ r
   ·rw [if_pos hge]
    exact wpS_pure ⟨rfl,l,r,rfl,by omega,q3,fun p hp h1 h2=>q4 p hp (by omega) h2⟩
   ·rw [if_neg hge]
    have hm:lo+(l+r) / 2<(arrOf st'').size:=by omega
    refine wpS_bind (zB7 hA hB' hk' hm ?_)
    cases e:L (arrOf st'')[lo+k] (arrOf st'')[lo+(l+r) / 2] with
    | true =>
     refine wpS_pure ⟨rfl,l,(l+r) / 2,rfl,by omega,by omega,q3,fun p hp h1 h2=>?_,by omega⟩
     cases e3:L (arrOf st'')[lo+k] (arrOf st'')[lo+p] with
     | true=>rfl
     | false =>
      rcases Nat.lt_or_eq_of_le h1 with z | z
      ·rw [O.trans _ _ _ (mm _ hm) (mm _ hp) (mm _ hk') (hs' (lo+(l+r) / 2) (lo+p) hp (by omega) (by omega) (by omega)) e3] at e
       cases e
      ·subst z; rw [e] at e3; cases e3
    | false =>
     refine wpS_pure ⟨rfl,(l+r) / 2+1,r,rfl,by omega,q2,fun p hp h1=>?_,q4,by omega⟩
     rcases Nat.lt_or_eq_of_le (show p≤(l+r) / 2 by omega) with z | z
     ·exact O.trans _ _ _ (mm _ hp) (mm _ hm) (mm _ hk') (hs' (lo+p) (lo+(l+r) / 2) hm (by omega) (by omega) (by omega)) e
     ·subst z; exact e
  case ipost =>
   rintro c st'' ⟨rfl,l,r,rfl,hl,q3,q4⟩
   show wpS _ _ _ _ (do moveDown' (lo+k) (lo+l); pure (ForInStep.yield (none,()))) _ _
   rw [moveDown'_eq]
   have bu:=getElem?_bubble (xs:=arrOf st'') hk' (lo+k - (lo+l)) (by omega)
   refine wpS_bind (wpS_modify (wpS_pure ⟨rfl,hB'.setArr (bubble_perm _ _ _),hp,?_,fun p hp2=>?_⟩))
   ·show Seg L (bubble (arrOf st'') (lo+k) (lo+k - (lo+l))) lo (k+1)
    have hq':=seg_iff.mp hs'
    rw [seg_iff]
    intro p q x y hpq hlp hqn ex ey
    rw [bu] at ex ey
    rw [show lo+k - (lo+k - (lo+l))=lo+l by omega] at ex ey
    by_cases hp1:p=lo+l
    ·rw [if_pos hp1] at ex
     rw [if_neg (by omega),if_pos (by omega)] at ey
     obtain ⟨z1,rfl⟩:=Array.getElem?_eq_some_iff.mp ex
     obtain ⟨z2,rfl⟩:=Array.getElem?_eq_some_iff.mp ey
     have z:=q4 (q - 1 - lo) (by omega) (by omega) (by omega)
     have e:lo+(q - 1 - lo)=q - 1:=by omega
     simp only [e] at z
     exact O.asym _ _ (mm _ z1) (mm _ z2) z
    ·rw [if_neg hp1] at ex
     by_cases hq1:q=lo+l
     ·rw [if_pos hq1] at ey
      rw [if_neg (by omega)] at ex
      obtain ⟨z1,rfl⟩:=Array.getElem?_eq_some_iff.mp ex
      obtain ⟨z2,rfl⟩:=Array.getElem?_eq_some_iff.mp ey
      have z:=q3 (p - lo) (by omega) (by omega)
      have e:lo+(p - lo)=p:=by omega
      simp only [e] at z
      exact z
     ·rw [if_neg hq1] at ey
      by_cases hp2:lo+l<p∧p≤lo+k
      ·rw [if_pos hp2] at ex
       rw [if_pos (by omega)] at ey
       exact hq' (p - 1) (q - 1) x y (by omega) (by omega) (by omega) ex ey
      ·rw [if_neg hp2] at ex
       by_cases hq2:lo+l<q∧q≤lo+k
       ·rw [if_pos hq2] at ey
        exact hq' p (q - 1) x y (by omega) (by omega) (by omega) ex ey
       ·rw [if_neg hq2] at ey
        exact hq' p q x y (by omega) (by omega) (by omega) ex ey
   ·show (bubble (arrOf st'') (lo+k) (lo+k - (lo+l)))[p]?=_
    rw [bu,if_neg (by omega),if_neg (by omega)]
    exact ho p hp2
end
end TS
namespace TS
open PySem PyProof.Rows
section
variable {L:Keyed→Keyed→Bool} {a a₀:Array Keyed}
noncomputable def Desc (L:Keyed→Keyed→Bool) (a:Array Keyed) (i n:Nat):Prop:=∀ p q x y,p<q→i≤p→q<i+n→a[p]?=some x→a[q]?=some y→L x y=false
noncomputable def Blk (L:Keyed→Keyed→Bool) (a:Array Keyed) (i j:Nat):Prop:=∀ p q x y,i≤p→p<j→i≤q→q<j→a[p]?=some x→a[q]?=some y→L x y=false
theorem mir {xs:Array Keyed} {i j:Nat} (hj:j≤xs.size) (k:Nat):(mirror xs i j ((j - i) / 2))[k]?=if i≤k∧k<j then xs[i+j - 1 - k]? else xs[k]?:=getElem?_mirror_all hj k
theorem Desc.blk {lo n i:Nat} (d:Desc L a lo n) (hi:lo≤i) (hj:lo+n≤a.size) (b:Blk L a i (lo+n)):Desc L (mirror a i (lo+n) ((lo+n - i) / 2)) lo n:=by
 intro p q x y hpq hp hq ex ey
 rw [mir hj] at ex ey
 by_cases hp1:i≤p∧p<lo+n
 ·rw [if_pos hp1] at ex
  rw [if_pos (by omega)] at ey
  exact b _ _ x y (by omega) (by omega) (by omega) (by omega) ex ey
 ·rw [if_neg hp1] at ex
  by_cases hq1:i≤q∧q<lo+n
  ·rw [if_pos hq1] at ey
   exact d p _ x y (by omega) hp (by omega) ex ey
  ·rw [if_neg hq1] at ey
   exact d p q x y hpq hp hq ex ey
theorem Desc.rev {lo n:Nat} (d:Desc L a lo n) (hj:lo+n≤a.size):Seg L (mirror a lo (lo+n) ((lo+n - lo) / 2)) lo n:=by
 rw [seg_iff]
 intro p q x y hpq hp hq ex ey
 rw [mir hj] at ex ey
 rw [if_pos (by omega)] at ex ey
 exact d _ _ y x (by omega) (by omega) (by omega) ey ex
theorem Seg.more {lo n:Nat} (O:Ord L a₀) (hm:∀ x∈a,x∈a₀) (s:Seg L a lo n) (h1:1≤n) (hs:lo+n<a.size) (h:L a[lo+n] (a[lo+n - 1]'(by omega))=false):Seg L a lo (n+1):=by
 intro p q hq hpq hp hqn
 rcases Nat.lt_or_eq_of_le (show q≤lo+n by omega) with z | z
 ·exact s p q hq hpq hp z
 ·subst z
  rcases Nat.lt_or_eq_of_le (show p≤lo+n - 1 by omega) with z | z
  ·exact O.trans _ _ _ (hm _ (Array.getElem_mem _)) (hm _ (Array.getElem_mem _)) (hm _ (Array.getElem_mem hs)) (s p (lo+n - 1) (by omega) z hp (by omega)) h
  ·subst z; exact h
theorem Desc.snoc {lo n:Nat} {y:Keyed} (d:Desc L a lo n) (h:∀ p z,lo≤p→p<lo+n→a[p]?=some z→L z y=false) (e:a[lo+n]?=some y):Desc L a lo (n+1):=fun p q x y' hpq hp hq ex ey=>by
 rcases Nat.lt_or_eq_of_le (show q≤lo+n by omega) with z | z
 ·exact d p q x y' hpq hp z ex ey
 ·subst z
  rw [e] at ey
  cases ey
  exact h p x hp (by omega) ex
theorem zLS {lo n i:Nat} {P:Keyed→Prop} (hj:lo+n≤a.size) (hi:lo≤i) (h:∀ p z,lo≤p→p<lo+n→a[p]?=some z→P z):∀ p z,lo≤p→p<lo+n→(mirror a i (lo+n) ((lo+n - i) / 2))[p]?=some z→P z:=fun p z h1 h2 e=>by
 rw [mir hj] at e
 split at e
 ·exact h _ z (by omega) (by omega) e
 ·exact h p z h1 h2 e
theorem Blk.mir {i j:Nat} (b:Blk L a i j) (hj:j≤a.size):Blk L (mirror a i j ((j - i) / 2)) i j:=fun p q x y h1 h2 h3 h4 ex ey=>by
 rw [TS.mir hj,if_pos ⟨h1,h2⟩] at ex
 rw [TS.mir hj,if_pos ⟨h3,h4⟩] at ey
 exact b _ _ x y (by omega) (by omega) (by omega) (by omega) ex ey
theorem Blk.one {i:Nat} (O:Ord L a₀) (hm:∀ x∈a,x∈a₀):Blk L a i (i+1):=fun p q x y h1 h2 h3 h4 ex ey=>by
 have e1:p=i:=by omega
 have e2:q=i:=by omega
 subst e1; subst e2
 rw [ex] at ey
 cases ey
 exact O.refl (hm _ (Array.mem_of_getElem? ex))
theorem Seg.one {lo:Nat}:Seg L a lo 1:=fun p q hq hpq hp hqn=>by omega
end
section
variable {prog:Program} {w:World} {A:Around} {E:Value→Shared→Prop} {s:Shared} {a₀:Array Keyed} {kd:SortKind} {L:Keyed→Keyed→Bool}
noncomputable def KpO (a₀:Array Keyed) (kd:SortKind) (lo:Nat) (st st':SortSt):Prop:=Kp a₀ kd st st'∧∀ p,p<lo→(arrOf st')[p]?=(arrOf st)[p]?
theorem KpO.rev {st st':SortSt} {lo i j:Nat} (h:KpO a₀ kd lo st st') (hi:lo≤i) (hj:j≤a₀.size):KpO a₀ kd lo st (setArr st' (mirror (arrOf st') i j ((j - i) / 2))):=by
 refine ⟨h.1.rev,fun p hp=>?_⟩
 show (mirror (arrOf st') i j ((j - i) / 2))[p]?=_
 rw [mir (by rw [h.1.1.size]; exact hj),if_neg (by omega)]
 exact h.2 p hp
theorem viaS {α:Type} {T:StateT SortSt Sem α} {M:Model} {A:Around} {E:Value→Shared→Prop} {s:Shared} {Q:α→SortSt→Prop} {goal:Prop} (P:SortSt→Prop) (h1:(∀ st,P st→wpS M A E s T Q st)→goal) (h2:∀ st,P st→wpS M A E s T Q st):goal:=h1 h2
theorem zHC {st:SortSt} {lo nrem:Nat} {Q:Option Nat→SortSt→Prop} (hA:AskL prog w A s kd a₀ L) (O:Ord L a₀) (hn:lo+nrem≤a₀.size) (h1:1≤nrem) (hB:SB a₀ kd st)
  (h:∀ m st',KpO a₀ kd lo st st'→1≤m→m≤nrem→Seg L (arrOf st') lo m→Q (some m) st'):wpS (model prog w) A E s (countRun' lo nrem) Q st:=by
 have k0:KpO a₀ kd lo st st:=⟨⟨hB,rfl⟩,fun _ _=>rfl⟩
 have hsz:=hB.size
 have mm:∀ x∈arrOf st,x∈a₀:=fun x hx=>hB.perm.mem_iff.mp hx
 refine wpS_bind (wpS_mono (wpS_forRange (I:=fun x c st'=>st'=st∧c=(none,x)∧Seg L (arrOf st) lo x) (Q:=fun c st'=>st'=st∧∃ n,c=(none,n)∧1≤n∧n≤nrem∧Seg L (arrOf st) lo n∧(n=nrem∨∃ (hx:lo+n<(arrOf st).size),L (arrOf st)[lo+n] ((arrOf st)[lo+n - 1]'(by omega))=true)) ?s1 ?f1 ⟨rfl,rfl,Seg.one⟩) ?p1)
 case f1 =>
  rintro c st' ⟨rfl,rfl,sg⟩
  have e:(if 1≤nrem then nrem else 1)=nrem:=if_pos h1
  exact ⟨rfl,_,rfl,by omega,by omega,sg,.inl (by omega)⟩
 case s1 =>
  rintro x c st' hax hxn ⟨rfl,rfl,sg⟩
  have hx1:lo+x<(arrOf st').size:=by omega
  refine wpS_bind (zB7 hA hB hx1 (show lo+x - 1<(arrOf st').size by omega) ?_)
  cases e:L (arrOf st')[lo+x] ((arrOf st')[lo+x - 1]'(by omega)) with
  | true=>exact wpS_pure ⟨rfl,x,rfl,hax,by omega,sg,.inr ⟨hx1,e⟩⟩
  | false=>exact wpS_pure ⟨rfl,rfl,sg.more O mm hax hx1 e⟩
 case p1 =>
  rintro c st' ⟨rfl,n,rfl,hn1,hn2,sg,hor⟩
  refine zAJ (fun q=>?_) (fun q=>?_)
  ·exact wpS_pure (h n _ k0 hn1 hn2 sg)
  have q':¬ (n=nrem):=fun z=>q (beq_iff_eq.mpr z)
  obtain ⟨hx1,hless⟩:∃ (hx:lo+n<(arrOf st').size),L (arrOf st')[lo+n] ((arrOf st')[lo+n - 1]'(by omega))=true:=by
   rcases hor with z | z
   ·exact absurd z q'
   ·exact z
  -- the first n are alike,and the next is below
  have start:∀ st1,KpO a₀ kd lo st' st1→Blk L (arrOf st1) lo (lo+n)→(∀ p x,lo≤p→p<lo+n→(arrOf st1)[p]?=some x→L x (arrOf st')[lo+n]=false)→(arrOf st1)[lo+n]?=(arrOf st')[lo+n]?→Desc L (arrOf st1) lo (n+1):=fun st1 k1 bl hall he p q x y hpq hp hq ex ey=>by
   rcases Nat.lt_or_eq_of_le (show q≤lo+n by omega) with z | z
   ·exact bl p q x y hp (by omega) (by omega) z ex ey
   ·subst z
    rw [he,getElem?_pos (arrOf st') (lo+n) hx1] at ey
    cases ey
    exact hall p x hp (by omega) ex
  have bl0:∀ (hq0:n=1∨L ((arrOf st')[lo]'(by omega)) ((arrOf st')[lo+n - 1]'(by omega))=false),Blk L (arrOf st') lo (lo+n):=fun hq0 p q x y hp hp2 hq hq2 ex ey=>by
   obtain ⟨z1,rfl⟩:=Array.getElem?_eq_some_iff.mp ex
   obtain ⟨z2,rfl⟩:=Array.getElem?_eq_some_iff.mp ey
   have le:∀ (u v:Nat) (hv:v<(arrOf st').size) (huv:u≤v),lo≤u→v<lo+n→L (arrOf st')[v] ((arrOf st')[u]'(by omega))=false:=fun u v hv huv h3 h4=>by
    rcases Nat.lt_or_eq_of_le huv with z | z
    ·exact sg u v hv z h3 h4
    ·subst z; exact O.refl (mm _ (Array.getElem_mem _))
   rcases hq0 with z | z
   ·have e1:p=lo:=by omega
    have e2:q=lo:=by omega
    subst e1; subst e2
    exact O.refl (mm _ (Array.getElem_mem _))
   ·-- y≤last≤first≤x turned: y at most x
    have a1:=le q (lo+n - 1) (by omega) (by omega) hq (by omega)
    have a2:=le lo p z1 hp (Nat.le_refl _) hp2
    exact O.trans _ _ _ (mm _ (Array.getElem_mem z2)) (mm _ (Array.getElem_mem (show lo<(arrOf st').size by omega))) (mm _ (Array.getElem_mem z1))
     (O.trans _ _ _ (mm _ (Array.getElem_mem z2)) (mm _ (Array.getElem_mem (show lo+n - 1<(arrOf st').size by omega))) (mm _ (Array.getElem_mem (show lo<(arrOf st').size by omega))) a1 z) a2
  have all0:Blk L (arrOf st') lo (lo+n)→∀ p x,lo≤p→p<lo+n→(arrOf st')[p]?=some x→L x (arrOf st')[lo+n]=false:=fun bl p x hp hp2 ex=>by
   obtain ⟨z1,rfl⟩:=Array.getElem?_eq_some_iff.mp ex
   have a1:=O.asym _ _ (mm _ (Array.getElem_mem hx1)) (mm _ (Array.getElem_mem (show lo+n - 1<(arrOf st').size by omega))) hless
   have a2:=bl p (lo+n - 1) _ _ hp hp2 (by omega) (by omega) (getElem?_pos (arrOf st') p z1) (getElem?_pos (arrOf st') (lo+n - 1) (by omega))
   exact O.trans _ _ _ (mm _ (Array.getElem_mem hx1)) (mm _ (Array.getElem_mem (show lo+n - 1<(arrOf st').size by omega))) (mm _ (Array.getElem_mem z1)) a1 a2
  refine viaS (fun st1=>KpO a₀ kd lo st' st1∧Desc L (arrOf st1) lo (n+1)) (fun K=>by
   refine zAJ (fun q1=>?_) (fun q1=>?_)
   case refine_2=>exact K _ ⟨k0,start _ k0 (bl0 (.inl (by omega))) (all0 (bl0 (.inl (by omega)))) rfl⟩
   case refine_1 =>
    refine wpS_bind (zB7 hA hB (show lo<(arrOf st').size by omega) (show lo+n - 1<(arrOf st').size by omega) ?_)
    cases eq1:L ((arrOf st')[lo]'(by omega)) ((arrOf st')[lo+n - 1]'(by omega))
    case true=>exact wpS_pure (h n _ k0 hn1 hn2 sg)
    refine wpS_bind (zF1 ?_)
    have bl:=bl0 (.inr eq1)
    have k1:=k0.rev (i:=lo) (j:=lo+n) (Nat.le_refl _) (by omega)
    exact K _ ⟨k1,start _ k1 (Blk.mir (i:=lo) (j:=lo+n) bl (by omega)) (zLS (by omega) (Nat.le_refl _) (all0 bl)) (by
     show (mirror (arrOf st') lo (lo+n) ((lo+n - lo) / 2))[lo+n]?=_
     rw [mir (by omega),if_neg (by omega)])⟩) ?_
  clear start bl0 all0
  rintro st1 ⟨k1,D1⟩
  refine wpS_bind (wpS_lift (wpAny_rule ⟨rfl,?_⟩))
  have mk:∀ st2,KpO a₀ kd lo st' st2→∀ x∈arrOf st2,x∈a₀:=fun st2 k x hx=>k.1.1.perm.mem_iff.mp hx
  refine wpS_bind (wpS_mono (wpS_forRange (I:=fun x c st2=>∃ neq,c=(none,x,neq)∧KpO a₀ kd lo st' st2∧Desc L (arrOf st2) lo x∧neq+1≤x∧Blk L (arrOf st2) (lo+x - (neq+1)) (lo+x))
   (Q:=fun c st2=>∃ m neq,c=(none,m,neq)∧KpO a₀ kd lo st' st2∧n+1≤m∧m≤nrem∧Desc L (arrOf st2) lo m∧neq+1≤m∧Blk L (arrOf st2) (lo+m - (neq+1)) (lo+m)) ?s2 ?f2 ⟨0,rfl,k1,D1,by omega,Blk.one O (mk _ k1)⟩) ?p2)
  case f2 =>
   rintro c st2 ⟨neq,rfl,k,D,hne,bk⟩
   exact ⟨_,neq,rfl,k,by omega,by omega,D,hne,bk⟩
  case s2 =>
   rintro x c st2 hax hxn ⟨neq,rfl,k,D,hne,bk⟩
   have hz2:=k.1.1.size
   have m2:=mk _ k
   have hx2:lo+x<(arrOf st2).size:=by omega
   have hx3:lo+x - 1<(arrOf st2).size:=by omega
   have all1:L (arrOf st2)[lo+x - 1] (arrOf st2)[lo+x]=false→∀ p z,lo≤p→p<lo+x→(arrOf st2)[p]?=some z→L z (arrOf st2)[lo+x]=false:=fun e p z hp hp2 ez=>by
    obtain ⟨z1,rfl⟩:=Array.getElem?_eq_some_iff.mp ez
    rcases Nat.lt_or_eq_of_le (show p≤lo+x - 1 by omega) with u | u
    ·exact O.trans _ _ _ (m2 _ (Array.getElem_mem hx2)) (m2 _ (Array.getElem_mem hx3)) (m2 _ (Array.getElem_mem z1)) e (D p (lo+x - 1) _ _ u hp (by omega) ez (getElem?_pos (arrOf st2) (lo+x - 1) hx3))
    ·subst u; exact e
   refine wpS_bind (zB7 hA k.1.1 hx2 hx3 ?_)
   cases e:L (arrOf st2)[lo+x] (arrOf st2)[lo+x - 1] with
   | true =>
    have al:=all1 (O.asym _ _ (m2 _ (Array.getElem_mem hx2)) (m2 _ (Array.getElem_mem hx3)) e)
    simp only [if_true]
    refine zAJ (fun _=>?_) (fun _=>?_)
    ·have k':=k.rev (i:=lo+x - (neq+1)) (j:=lo+x) (by omega) (by omega)
     refine wpS_bind (zF1 (wpS_pure ⟨0,rfl,k',?_,by omega,Blk.one O (mk _ k')⟩))
     refine Desc.snoc (y:=(arrOf st2)[lo+x]) (D.blk (by omega) (by omega) bk) (zLS (by omega) (by omega) al) ?_
     show (mirror (arrOf st2) (lo+x - (neq+1)) (lo+x) ((lo+x - (lo+x - (neq+1))) / 2))[lo+x]?=_
     rw [mir (by omega),if_neg (by omega)]
     exact getElem?_pos (arrOf st2) (lo+x) hx2
    ·exact wpS_pure ⟨0,rfl,k,D.snoc al (getElem?_pos (arrOf st2) (lo+x) hx2),by omega,Blk.one O m2⟩
   | false =>
    refine wpS_bind (zB7 hA k.1.1 hx3 hx2 ?_)
    cases e2:L (arrOf st2)[lo+x - 1] (arrOf st2)[lo+x] with
    | true=>exact wpS_pure ⟨x,neq,rfl,k,hax,by omega,D,hne,bk⟩
    | false =>
     have al:=all1 e2
     refine wpS_pure ⟨neq+1,rfl,k,D.snoc al (getElem?_pos (arrOf st2) (lo+x) hx2),by omega,fun p q u v h1' h2' h3' h4' eu ev=>?_⟩
     by_cases hp:p<lo+x
     ·by_cases hq:q<lo+x
      ·exact bk p q u v (by omega) hp (by omega) hq eu ev
      ·have e3:q=lo+x:=by omega
       subst e3
       rw [getElem?_pos (arrOf st2) (lo+x) hx2] at ev
       cases ev
       exact al p u (by omega) hp eu
     ·have e3:p=lo+x:=by omega
      subst e3
      rw [getElem?_pos (arrOf st2) (lo+x) hx2] at eu
      cases eu
      by_cases hq:q<lo+x
      ·obtain ⟨z1,rfl⟩:=Array.getElem?_eq_some_iff.mp ev
       have a1:=bk (lo+x - 1) q _ _ (by omega) (by omega) (by omega) hq (getElem?_pos (arrOf st2) (lo+x - 1) hx3) ev
       exact O.trans _ _ _ (m2 _ (Array.getElem_mem z1)) (m2 _ (Array.getElem_mem hx3)) (m2 _ (Array.getElem_mem hx2)) a1 e
      ·have e4:q=lo+x:=by omega
       subst e4
       rw [getElem?_pos (arrOf st2) (lo+x) hx2] at ev
       cases ev
       exact O.refl (m2 _ (Array.getElem_mem hx2))
  case p2 =>
   rintro c st2 ⟨m,neq,rfl,k2,hm1,hm2,D,hne,bk⟩
   have hz2:=k2.1.1.size
   dsimp only
   refine viaS (fun st1=>KpO a₀ kd lo st' st1∧Desc L (arrOf st1) lo m) (fun K=>by
    refine zAJ (fun _=>?_) (fun _=>?_)
    case refine_2=>exact K _ ⟨k2,D⟩
    case refine_1=>exact wpS_bind (zF1 (K _ ⟨k2.rev (i:=lo+m - (neq+1)) (j:=lo+m) (by omega) (by omega),D.blk (i:=lo+m - (neq+1)) (by omega) (by omega) bk⟩))) ?_
   clear k2 D bk hz2
   rintro st2 ⟨k2,D⟩
   have hz3:=k2.1.1.size
   refine wpS_bind (zF1 ?_)
   have sg3:=Desc.rev D (by first | exact Nat.le_trans (by omega) (Nat.le_of_eq hz3.symm) | omega)
   have k3:=k2.rev (i:=lo) (j:=lo+m) (Nat.le_refl _) (by omega)
   refine wpS_bind (wpS_mono (wpS_forRange (I:=fun x c st3=>KpO a₀ kd lo st' st3∧c=(none,x)∧Seg L (arrOf st3) lo x) (Q:=fun c st3=>KpO a₀ kd lo st' st3∧∃ n,c=(none,n)∧1≤n∧n≤nrem∧Seg L (arrOf st3) lo n) ?s3 ?f3 ⟨k3,rfl,sg3⟩) ?p3)
   case f3 =>
    rintro c st3 ⟨k,rfl,sg⟩
    exact ⟨k,_,rfl,by omega,by omega,sg⟩
   case s3 =>
    rintro x c st3 hax hxn ⟨k,rfl,sg⟩
    have hz4:=k.1.1.size
    have hx2:lo+x<(arrOf st3).size:=by omega
    refine wpS_bind (zB7 hA k.1.1 hx2 (show lo+x - 1<(arrOf st3).size by omega) ?_)
    cases e:L (arrOf st3)[lo+x] ((arrOf st3)[lo+x - 1]'(by omega)) with
    | true=>exact wpS_pure ⟨k,x,rfl,by omega,by omega,sg⟩
    | false=>exact wpS_pure ⟨k,rfl,sg.more O (mk _ k) (by omega) hx2 e⟩
   case p3 =>
    rintro c st3 ⟨k,z,rfl,hz1,hz2,sg⟩
    exact wpS_pure (h z _ k hz1 hz2 sg)
end
end TS
namespace TS
open PySem PyProof.Rows
section
variable {L:Keyed→Keyed→Bool} {x x':Array Keyed}
theorem Seg.keep {i n:Nat} (s:Seg L x i n) (h:∀ q,i≤q→q<i+n→x'[q]?=x[q]?):Seg L x' i n:=by
 rw [seg_iff] at s ⊢
 intro p q u v hpq hp hq eu ev
 rw [h p hp (by omega)] at eu
 rw [h q (by omega) hq] at ev
 exact s p q u v hpq hp hq eu ev
noncomputable def CovO (L:Keyed→Keyed→Bool) (x:Array Keyed):List Run→Nat→Nat→Prop
 | [],a,b=>a=b
 | (st,len,_)::r,a,b=>st=a∧1≤len∧Seg L x a len∧CovO L x r (a+len) b
theorem CovO.le:∀ {p:List Run} {a b:Nat},CovO L x p a b→a≤b
 | [],_,_,h=>Nat.le_of_eq h
 | (_,len,_)::r,a,b,h=>by have:=CovO.le h.2.2.2; omega
theorem CovO.len:∀ {p:List Run} {a b:Nat},CovO L x p a b→p.length+a≤b
 | [],_,_,h=>by have h:_=_:=h; simp; omega
 | (_,len,_)::r,a,b,h=>by have:=CovO.len h.2.2.2; have:=h.2.1; rw [List.length_cons]; omega
theorem CovO.keepIn:∀ {p:List Run} {a b:Nat},CovO L x p a b→(∀ q,a≤q→q<b→x'[q]?=x[q]?)→CovO L x' p a b
 | [],_,_,h,_=>h
 | (_,len,_)::r,a,b,h,hk=>by
  have:=CovO.le h.2.2.2
  exact ⟨h.1,h.2.1,h.2.2.1.keep fun q h1 h2=>hk q h1 (by omega),CovO.keepIn h.2.2.2 fun q h1 h2=>hk q (by omega) h2⟩
theorem CovO.keep {p:List Run} {b:Nat} (h:CovO L x p 0 b) (hk:∀ q,q<b→x'[q]?=x[q]?):CovO L x' p 0 b:=h.keepIn fun q _ hq=>hk q hq
theorem CovO.snoc:∀ {p:List Run} {a b n k:Nat},CovO L x p a b→1≤n→Seg L x b n→CovO L x (p++[(b,n,k)]) a (b+n)
 | [],a,b,n,k,h,hn,s=>by
  have h:a=b:=h
  subst h
  exact ⟨rfl,hn,s,rfl⟩
 | (_,len,_)::r,a,b,n,k,h,hn,s=>⟨h.1,h.2.1,h.2.2.1,CovO.snoc h.2.2.2 hn s⟩
theorem CovO.modify:∀ {p:List Run} {a b i pw:Nat},CovO L x p a b→CovO L x (p.modify i fun (st,len,_)=>(st,len,pw)) a b
 | [],a,b,i,pw,h=>by simpa using h
 | (_,len,_)::r,a,b,0,pw,h=>⟨h.1,h.2.1,h.2.2.1,h.2.2.2⟩
 | (_,len,_)::r,a,b,i+1,pw,h=>by
  rw [List.modify_succ_cons]
  exact ⟨h.1,h.2.1,h.2.2.1,CovO.modify h.2.2.2⟩
theorem CovO.last {p:List Run} {b:Nat} (h:CovO L x p 0 b) (hl:p.length≤1):Seg L x 0 b:=by
 match p,h,hl with
 | [],h,_ =>
  have h:0=b:=h
  subst h
  intro p q hq hpq hp hqn
  omega
 | [(st,len,k)],h,_ =>
  obtain ⟨_,_,s,e⟩:=h
  have e:0+len=b:=e
  have e':b=len:=by omega
  subst e'
  exact s
theorem CovO.at:∀ {p:List Run} {a b i sa na pa sb nb pb:Nat},CovO L x p a b→p[i]?=some (sa,na,pa)→p[i+1]?=some (sb,nb,pb) →
  (1≤na∧1≤nb∧sb=sa+na∧sb+nb≤b∧a≤sa)∧Seg L x sa na∧Seg L x sb nb ∧
  ((∀ q,q<sa∨sa+(na+nb)≤q→x'[q]?=x[q]?)→Seg L x' sa (na+nb)→CovO L x' ((p.set i (sa,na+nb,pa)).eraseIdx (i+1)) a b)
 | [],a,b,i,_,_,_,_,_,_,h,e,_=>by simp at e
 | [y],a,b,0,_,_,_,_,_,_,h,e,e2=>by simp at e2
 | y::z::r,a,b,0,sa,na,pa,sb,nb,pb,h,e,e2=>by
  simp at e e2
  subst e; subst e2
  obtain ⟨h1,h2,h3,h4,h5,h6,h7⟩:=h
  have:=h7.le
  refine ⟨⟨h2,h5,by omega,by omega,by omega⟩,by rw [h1]; exact h3,by rw [h4]; exact h6,fun hk s=>?_⟩
  show CovO L x' ((sa,na+nb,pa)::r) a b
  refine ⟨h1,by omega,by rw [← h1]; exact s,?_⟩
  rw [← Nat.add_assoc]
  exact h7.keepIn fun q h8 _=>hk q (by omega)
 | (_,len,_)::r,a,b,i+1,sa,na,pa,sb,nb,pb,h,e,e2=>by
  obtain ⟨⟨q1,q2,q3,q4,q5⟩,s1,s2,q6⟩:=CovO.at h.2.2.2 (by simpa using e) (by simpa using e2)
  exact ⟨⟨q1,q2,q3,q4,by omega⟩,s1,s2,fun hk s=>⟨h.1,h.2.1,h.2.2.1.keep fun q h8 h9=>hk q (by omega),q6 hk s⟩⟩
end
section
variable {prog:Program} {w:World} {A:Around} {E:Value→Shared→Prop} {s:Shared} {a₀:Array Keyed} {kd:SortKind} {L:Keyed→Keyed→Bool}
structure SRO (L:Keyed→Keyed→Bool) (a₀:Array Keyed) (kd:SortKind) (lo:Nat) (st:SortSt):Prop where
 sb:SB a₀ kd st
 cov:CovO L (arrOf st) (pendingOf st).toList 0 lo
 le:lo≤a₀.size
theorem zDQ {st:SortSt} {i lo:Nat} {Q:Bool→SortSt→Prop} (hA:AskL prog w A s kd a₀ L) (O:Ord L a₀) (R:SRO L a₀ kd lo st) (hi:i+1<(pendingOf st).size)
  (h:∀ st',SRO L a₀ kd lo st'→(pendingOf st').size+1=(pendingOf st).size→(∀ q,lo≤q→(arrOf st')[q]?=(arrOf st)[q]?)→Q true st') :
  wpS (model prog w) A E s (mergeAt' i) Q st:=by
 have hi0:i<(pendingOf st).size:=by omega
 obtain ⟨⟨sa,na,pa⟩,e1⟩:∃ r:Run,(pendingOf st)[i]?=some r:=⟨_,getElem?_pos _ i hi0⟩
 obtain ⟨⟨sb,nb,pb⟩,e2⟩:∃ r:Run,(pendingOf st)[i+1]?=some r:=⟨_,getElem?_pos _ (i+1) hi⟩
 obtain ⟨⟨q1,q2,q3,q4,q5⟩,s1,s2,_⟩:=R.cov.at (x':=arrOf st) (i:=i) (by rw [Array.getElem?_toList]; exact e1) (by rw [Array.getElem?_toList]; exact e2)
 refine zID hA O R.sb e1 e2 q1 q2 q3 (Nat.le_trans q4 R.le) s1 s2 fun st' hB hp sg hk=>?_
 have hz1:=hB.size
 have hz2:=R.sb.size
 have hk':∀ q,q<sa∨sa+(na+nb)≤q→(arrOf st')[q]?=(arrOf st)[q]?:=fun q hq=>by
  by_cases z:q<a₀.size
  ·rw [getElem?_pos (arrOf st') q (by omega),getElem?_pos (arrOf st) q (by omega),hk q (by omega) (by omega) hq]
  ·rw [getElem?_neg (arrOf st') q (by omega),getElem?_neg (arrOf st) q (by omega)]
 have hz:i+1<((pendingOf st).setIfInBounds i (sa,na+nb,pa)).size:=by rw [Array.size_setIfInBounds]; exact hi
 refine h st' ⟨hB,?_,R.le⟩ ?_ fun q hq=>hk' q (.inr (by omega))
 ·rw [hp,Array.eraseIdxIfInBounds,dif_pos hz,Array.toList_eraseIdx,Array.toList_setIfInBounds]
  exact (R.cov.at (x':=arrOf st') (i:=i) (by rw [Array.getElem?_toList]; exact e1) (by rw [Array.getElem?_toList]; exact e2)).2.2.2 hk' sg
 ·rw [hp,Array.eraseIdxIfInBounds,dif_pos hz,Array.size_eraseIdx,Array.size_setIfInBounds]
  omega
theorem viaN {α:Type} {T:Nat→StateT SortSt Sem α} {M:Model} {A:Around} {E:Value→Shared→Prop} {s:Shared} {Q:α→SortSt→Prop} {goal:Prop} (P:Nat→SortSt→Prop) (h1:(∀ n st,P n st→wpS M A E s (T n) Q st)→goal) (h2:∀ n st,P n st→wpS M A E s (T n) Q st):goal:=h1 h2
theorem zHD {st:SortSt} {Q:Unit→SortSt→Prop} (hA:AskL prog w A s kd a₀ L) (O:Ord L a₀) (hB:SB a₀ kd st) (hp:pendingOf st=#[])
  (h:∀ st',SB a₀ kd st'→Seg L (arrOf st') 0 a₀.size→Q () st'):wpS (model prog w) A E s sortRuns' Q st:=by
 rw [sortRuns'_eq]
 refine wpS_bind (wpS_get ?_)
 dsimp only
 rw [hB.size]
 refine wpS_bind (wpS_mono (wpS_forRange (I:=fun x c st'=>∃ lo,c=(none,lo)∧SRO L a₀ kd lo st'∧x≤lo)
  (Q:=fun c st'=>∃ lo,c=(none,lo)∧SRO L a₀ kd lo st'∧a₀.size≤lo) ?step (fun c st' ⟨lo,e,R,hx⟩=>⟨lo,e,R,by omega⟩) ⟨0,rfl,⟨hB,by rw [hp]; rfl,Nat.zero_le _⟩,Nat.le_refl _⟩) ?post)
 case step =>
  rintro x c st' _ hx ⟨lo,rfl,R,hxl⟩
  dsimp only
  refine zAJ (fun q=>?_) (fun q=>?_)
  ·exact wpS_pure ⟨lo,rfl,R,q⟩
  refine wpS_bind (zHC hA O (by omega) (by omega) R.sb fun m st2 k2 hm1 hm2 sg2=>?_)
  have R2:SRO L a₀ kd lo st2:=⟨k2.1.1,by rw [k2.1.2]; exact R.cov.keep fun q hq=>k2.2 q hq,R.le⟩
  dsimp only
  refine viaN (fun m st3=>SRO L a₀ kd lo st3∧Seg L (arrOf st3) lo m∧1≤m∧lo+m≤a₀.size) (fun K=>by
   refine zAJ (fun hlt=>?_) (fun hlt=>?_)
   case refine_2 =>
    have hP:SRO L a₀ kd lo st2∧Seg L (arrOf st2) lo m∧1≤m∧lo+m≤a₀.size:=⟨R2,sg2,hm1,by omega⟩
    revert hP
    generalize m=m'
    exact fun hP=>K m' _ hP
   case refine_1 =>
    refine wpS_bind (wpS_lift (wpAny_rule ⟨rfl,?_⟩))
    refine wpS_bind (zEZ hA O (by omega) (by omega) (by omega) R2.sb sg2 fun st3 hB3 hp3 sg3 ho3=>?_)
    exact K _ _ ⟨⟨hB3,by rw [hp3]; exact R2.cov.keep fun q hq=>ho3 q hq,R2.le⟩,sg3,by omega,by omega⟩) ?_
  clear sg2 k2 R2 hm1 hm2
  rintro m st3 ⟨R3,sg3,hm1,hm2⟩
  refine wpS_bind (wpS_get ?_)
  split
  ·rename_i s1 n1 p1 hb
   refine wpS_bind (wpS_mono (wpS_forRange (I:=fun _ c st'=>c=(none,())∧SRO L a₀ kd lo st'∧Seg L (arrOf st') lo _) (Q:=fun c st'=>c=(none,())∧SRO L a₀ kd lo st'∧Seg L (arrOf st') lo _) ?st1 (fun _ _ h=>h) ⟨rfl,R3,sg3⟩) ?po1)
   case po1 =>
    rintro c st4 ⟨rfl,R4,sg4⟩
    refine wpS_bind (wpS_modify (wpS_bind (wpS_modify (wpS_pure ⟨_,rfl,⟨⟨R4.sb.perm,R4.sb.kind,R4.sb.failed⟩,?_,by omega⟩,by omega⟩))))
    show CovO L (arrOf st4) (Array.push _ _).toList 0 _
    rw [Array.toList_push]
    refine CovO.snoc ?_ (by omega) sg4
    show CovO L (arrOf st4) (Array.modify _ _ _).toList 0 lo
    rw [Array.toList_modify]
    exact R4.cov.modify
   case st1 =>
    rintro y c st4 _ _ ⟨rfl,R4,sg4⟩
    refine wpS_bind (wpS_get ?_)
    by_cases hz:(pendingOf st4).size > 1
    ·rw [if_pos hz,getElem?_pos (pendingOf st4) ((pendingOf st4).size - 2) (by omega)]
     refine zAJ (fun _=>?_) (fun _=>?_)
     ·exact wpS_pure ⟨rfl,R4,sg4⟩
     refine wpS_bind (zDQ hA O R4 (by omega) fun st5 R5 _ ho5=>?_)
     exact wpS_pure ⟨rfl,R5,sg4.keep fun q hq _=>ho5 q hq⟩
    ·rw [if_neg hz]
     exact wpS_pure ⟨rfl,R4,sg4⟩
  ·refine wpS_bind (wpS_modify (wpS_pure ⟨_,rfl,⟨⟨R3.sb.perm,R3.sb.kind,R3.sb.failed⟩,?_,by omega⟩,by omega⟩))
   show CovO L _ (Array.push _ _).toList 0 _
   rw [Array.toList_push]
   exact R3.cov.snoc (by omega) sg3
 case post =>
  rintro c st' ⟨lo,rfl,R,hlo⟩
  dsimp only
  have hle:=R.le
  have elo:lo=a₀.size:=by omega
  subst elo
  have hpz:=R.cov.len
  refine wpS_bind (wpS_mono (wpS_forRange (I:=fun y c st'=>c=(none,())∧SRO L a₀ kd a₀.size st'∧(pendingOf st').size+y≤a₀.size+1) (Q:=fun c st'=>c=(none,())∧SRO L a₀ kd a₀.size st'∧(pendingOf st').size≤1) ?st2 (fun c st' ⟨e,R,hs⟩=>⟨e,R,by omega⟩) ⟨rfl,R,by simp at hpz; omega⟩) ?po2)
  case po2 =>
   rintro c st4 ⟨rfl,R4,h4⟩
   exact wpS_pure (h _ R4.sb (R4.cov.last (by simpa using h4)))
  case st2 =>
   rintro y c st4 _ _ ⟨rfl,R4,h4⟩
   refine wpS_bind (wpS_get ?_)
   refine zAJ (fun hz=>?_) (fun hz=>?_)
   ·exact wpS_pure ⟨rfl,R4,hz⟩
   refine wpS_bind (zDQ hA O R4 ?_ fun st5 R5 hs5 _=>?_)
   ·exact Nat.lt_of_le_of_lt (Nat.add_le_add_right (zSK (n:=(pendingOf st4).size - 2) (by omega) (Nat.le_refl _)) 1) (by omega)
   ·exact wpS_pure ⟨rfl,R5,by omega⟩
end
end TS
namespace TS
open PySem PySem.W PyProof.Rows
theorem zSN {vs:List Value} {LV:Value→Value→Bool} {xs:Array Keyed} (hp:xs.Perm (pairsOf vs)) (sg:Seg (fun x y=>LV x.1 y.1) xs 0 (pairsOf vs).size):(xs.map (·.2)).toList.Pairwise fun x y=>LV y x=false:=by
 rw [Array.toList_map,List.pairwise_map,List.pairwise_iff_getElem]
 intro i j hi hj hij
 have hz:=hp.size_eq
 have hi':i<xs.size:=by simpa using hi
 have hj':j<xs.size:=by simpa using hj
 have z:=sg i j hj' hij (Nat.zero_le _) (by omega)
 have same:∀ x∈xs,x.1=x.2:=fun x hx=>by
  have h1:x∈pairsOf vs:=hp.mem_iff.mp hx
  have h2:x∈vs.zip vs:=by rw [← pairsOf_toList]; exact Array.mem_toList_iff.mpr h1
  exact (mem_zip_self h2).1
 have e1:=same _ (Array.getElem_mem hi')
 have e2:=same _ (Array.getElem_mem hj')
 simp only [e1,e2] at z
 simpa using z
section
variable {prog:Program} {w:World} {A:Around} {E:Value→Shared→Prop} {s:Shared}
theorem zNL {a:Addr} {vs:List Value} {n:Nat} {R:PySem.Fin→Shared→Prop} {LV:Value→Value→Bool} (O:Ord (fun x y=>LV x.1 y.1) (pairsOf vs)) (ho:s.heap.get? a=some (seqObj "list" vs.toArray n)) (hz:vs.length≤sizeLine)
  (hk:∀ h6:Heap,(∀ b o,b≠a→s.heap.get? b=some o→h6.get? b=some o)→2≤vs.length→wpAny (model prog w) A (keyKind' vs.toArray) (fun k s'=>s'={ s with heap:=h6 }∧AskL prog w A s' k (pairsOf vs) (fun x y=>LV x.1 y.1)) E { s with heap:=h6 })
  (h:∀ out:List Value,out.Perm vs→(out.Pairwise fun x y=>LV y x=false)→R (.done (.ret .none)) { s with heap:=sortedHeap s.heap a vs out.toArray }):wpAny (model prog w) A (Builtin.«list.sort» ⟨[.ref a],[]⟩) R E s:=by
 have la:a<s.heap.objs.size:=Heap.lt_size ho
 have zs:vs.toArray.size≤sizeLine:=by simpa using hz
 rw [list_sort_plain]
 refine wpAny_bind (listItems_at ho rfl (wpAny_bind (listUpdate_at ho rfl ?_ zs (Nat.zero_le _))))
 have g1:=get?_update_seq ho (fun _=>#[])
 generalize hh1:s.heap.update a (Obj.mapSeq fun _=>#[])=h1 at g1
 have z1:h1.objs.size=s.heap.objs.size:=by rw [← hh1,Heap.size_update]
 have o1:∀ b o,b≠a→s.heap.get? b=some o→h1.get? b=some o:=fun b o hb e=>by rw [← hh1,Heap.get?_update_ne _ _ _ _ hb]; exact e
 refine wpAny_bind (seqEpoch_at g1 rfl (wpAny_bind (wpAny_newTuple (wpAny_bind (wpAny_newList (wpAny_holding ?_))) (by simpa using hz))))
 generalize hh6:(h1.push (seqObj "tuple" vs.toArray 0)).push (seqObj "list" #[] 0)=h6
 have old6:∀ b o,h1.get? b=some o→h6.get? b=some o:=fun b o e=>by rw [← hh6]; exact Heap.get?_push_of_some _ (Heap.get?_push_of_some _ e)
 have g6:=old6 _ _ g1
 have fin:∀ st':SortSt,(arrOf st').Perm (pairsOf vs)→Seg (fun x y=>LV x.1 y.1) (arrOf st') 0 (pairsOf vs).size→R (.done (.ret .none)) { s with heap:=h6.update a (Obj.mapSeq fun _=>(arrOf st').map (·.2)) }:=fun st' hp sg=>by
  have q:=h _ (zG4 hp) (zSN hp sg)
  unfold sortedHeap at q
  rw [hh1,hh6,Array.toArray_toList] at q
  exact q
 have szp:∀ st':SortSt,(arrOf st').Perm (pairsOf vs)→((arrOf st').map (·.2)).size≤sizeLine+1:=fun st' hp=>by
  rw [Array.size_map,hp.size_eq,pairsOf_size]; omega
 by_cases h2:vs.toArray.size<2
 ·rw [if_pos h2,if_pos h2]
  refine wpAny_bind (wpAny_pure ?_)
  dsimp only
  rw [StateT.run_pure]
  refine wpAny_bind (wpAny_pure (wpAny_bind (seqEpoch_at g6 rfl ?_)))
  refine wpAny_bind (listUpdate_at g6 rfl ?_ (Nat.zero_le _) (szp (SortSt.mk' general' (pairsOf vs) #[] 7 none) (Array.Perm.refl _)))
  simp only [bne_self_eq_false,Bool.false_eq_true,if_false]
  exact wpAny_pure (fin (SortSt.mk' general' (pairsOf vs) #[] 7 none) (Array.Perm.refl _) (fun p q hq hpq hp hqn=>by rw [pairsOf_size] at hqn; simp at h2; omega))
 ·rw [if_neg h2,if_neg h2]
  refine wpAny_bind (wpAny_mono (hk h6 (fun b o hb e=>old6 b o (o1 b o hb e)) (by simpa using h2)) (fun k s7 ⟨e7,ask⟩=>?_) fun _ _ e=>e)
  subst e7
  refine wpAny_bind (wpAny_mono (zHD (st:=SortSt.mk' k (vs.toArray.zip vs.toArray) #[] 7 none) (Q:=fun _ st'=>SB (pairsOf vs) k st'∧Seg (fun x y=>LV x.1 y.1) (arrOf st') 0 (pairsOf vs).size) ask O ⟨Array.Perm.refl _,rfl,rfl⟩ rfl fun st' b sg=>⟨b,sg⟩) ?_ fun _ _ e=>e)
  rintro ⟨⟨⟩,st'⟩ s8 ⟨e8,B,sg⟩
  subst e8
  dsimp only
  refine wpAny_bind (seqEpoch_at g6 rfl (wpAny_bind (listUpdate_at g6 rfl ?_ (Nat.zero_le _) (szp st' B.perm))))
  rw [B.failed]
  simp only [bne_self_eq_false,Bool.false_eq_true,if_false]
  exact wpAny_pure (fin st' B.perm sg)
theorem sorted_inO {l:Addr} {vs:List Value} {Q:Value→Shared→Prop} {LV:Value→Value→Bool} (O:Ord (fun x y=>LV x.1 y.1) (pairsOf vs)) (hl:s.heap.IsList l vs.toArray) (hz:vs.length≤sizeLine)
  (hk:∀ h6:Heap,(∀ b o,s.heap.get? b=some o→h6.get? b=some o)→2≤vs.length→∀ E',wpAny (model prog w) A.in1.in1 (keyKind' vs.toArray) (fun k s'=>s'={ s with heap:=h6 }∧AskL prog w A.in1.in1 s' k (pairsOf vs) (fun x y=>LV x.1 y.1)) E' { s with heap:=h6 })
  (h:∀ out:List Value,out.Perm vs→(out.Pairwise fun x y=>LV y x=false)→Q (.ref (s.heap.objs.size+1)) { s with heap:=sortedAll s.heap vs out.toArray }):wpAny (model prog w) A (call (.builtin "sorted") [.ref l]) Q E s:=by
 refine Calls.call_function_entry kind_sorted plain_sorted entry_sorted (args_sorted1 _) ?_
 unfold Builtin.«sorted»
 refine wpAny_bind (m:=checkCount "sorted" 1 1 _) (wpAny_pure (wpAny_bind (collect_list hl (wpAny_bind (wpAny_newList ?_ hz)) hz)))
 have old:∀ b o,s.heap.get? b=some o→((s.heap.push (seqObj "list" #[] 0)).update s.heap.objs.size (Obj.mapSeq (·++vs.toArray))).get? b=some o:=fun b o e=>by
  rw [Heap.get?_update_ne _ _ _ _ (Nat.ne_of_lt (Heap.lt_size e))]; exact Heap.get?_push_of_some _ e
 have z2:((s.heap.push (seqObj "list" #[] 0)).update s.heap.objs.size (Obj.mapSeq (·++vs.toArray))).objs.size=s.heap.objs.size+1:=by rw [Heap.size_update,size_push']
 generalize hh2:(s.heap.push (seqObj "list" #[] 0)).update s.heap.objs.size (Obj.mapSeq (·++vs.toArray))=h2 at old z2
 have gL:(h2.push (seqObj "list" vs.toArray 0)).get? h2.objs.size=some (seqObj "list" vs.toArray 0):=Heap.get?_push_size _ rfl
 show wpAny _ _ _ _ _ { s with heap:=h2.push (seqObj "list" vs.toArray 0) }
 refine wpAny_bind (wpAny_holding (wpAny_call_entry slot_list_sort ⟨_,gL,rfl⟩ entry_list_sort (zNL O gL hz (fun h6 o6 h2'=>?_) fun out ho hpw=>⟨_,rfl,?_⟩) (args_list_sort _)))
 ·exact hk h6 (fun b o e=>o6 b o (by rw [z2]; exact Nat.ne_of_lt (Nat.lt_succ_of_lt (Heap.lt_size e))) (Heap.get?_push_of_some _ (old b o e))) h2' _
 ·have q:=h out ho hpw
  unfold sortedAll at q
  rw [hh2,← z2] at q
  exact wpAny_pure ⟨_,rfl,q⟩
end
end TS
namespace L2
open PySem PySem.Spec PyProof.Rows
theorem zP9 (a₀:Array Keyed):TS.Ord (fun x y=>decide (numOf x.1<numOf y.1)) a₀ where
 asym:=fun x y _ _ h=>by
  have:=of_decide_eq_true h
  exact decide_eq_false (by omega)
 trans:=fun x y z _ _ _ h1 h2=>by
  have a:=of_decide_eq_false h1
  have b:=of_decide_eq_false h2
  exact decide_eq_false (by omega)
theorem zQA {us:List Value} {ns:List Int} (h:IntsAre us ns) (p:us.Pairwise fun x y=>decide (numOf y<numOf x)=false):ns.Pairwise (·≤·):=by
 rw [← h.nums,List.pairwise_map]
 exact p.imp fun h=>by have:=of_decide_eq_false h; omega
theorem zSO {α:Type}:∀ {l:List α},2≤l.length→∃ a b r,l=a::b::r
 | a::b::r,_=>⟨a,b,r,rfl⟩
 | [],h=>by simp at h
 | [_],h=>by simp at h
theorem call_sortedIO {X:Cx}:CallR X (.builtin "sorted") (fun xs H Q=>∃ (l:Addr) (ns:List Int),xs=[.ref l]∧SqL X.K H l (ns.map V.int)∧∀ (ms:List Int) (q:Addr),ms.Perm ns→ms.Pairwise (·≤·)→H q=none→Q (.ref q) (upd H q (.lst (ms.map V.int)))):=by
 intro pins s σ H xs us Q I r h
 obtain ⟨l,ns,rfl,hl,q⟩:=h
 obtain ⟨u,rfl,ru⟩:=vals1 r
 cases ru
 obtain ⟨its,rv,pl,z⟩:=I.list hl
 have hlen:=rv.length
 have hi:IntsAre its ns:=zBV rv
 refine TS.sorted_inO (LV:=fun x y=>decide (numOf x<numOf y)) (zP9 _) pl.isList (by rw [← hlen]; exact z) (fun h6 o6 h2 E'=>?_) fun out ho hpw=>?_
 ·obtain ⟨v1,v2,vr,rfl⟩:=zSO h2
  rw [keyKind_ints hi]
  refine wpAny_pure ⟨rfl,fun x y hx hy Q' E2 hq=>?_⟩
  have mem:∀ x:Keyed,x∈pairsOf (v1::v2::vr)→∃ n t,x.1=.int n t:=fun x hx=>by
   have:x∈(v1::v2::vr).zip (v1::v2::vr):=by rw [← pairsOf_toList]; exact Array.mem_toList_iff.mpr hx
   obtain ⟨i,hi',ei⟩:=List.mem_iff_getElem.mp (List.of_mem_zip this).1
   obtain ⟨t,et⟩:=IntsAre.int_at hi i x.1 (by rw [List.getElem?_eq_getElem hi',ei])
   exact ⟨_,t,et⟩
  obtain ⟨n1,t1,e1⟩:=mem x hx
  obtain ⟨n2,t2,e2⟩:=mem y hy
  dsimp only at hq
  rw [e1,e2] at hq ⊢
  exact PySem.W.kat_lt_int hq
 ·obtain ⟨zs,p,rz⟩:=Vals.perm ho rv
  obtain ⟨e',hat⟩:=sortedAll_at s.heap its out.toArray
  have hf:H (s.heap.objs.size+1)=none:=I.hok.fresh (Nat.le_succ _)
  obtain ⟨ms,rfl,pm⟩:=zLO p ns rfl
  refine ⟨.ref (s.heap.objs.size+1),_,I.laid (t':=s.toks) (o:=.lst (ms.map V.int)) (fun b o hb=>sortedAll_old hb) (Nat.le_succ _) ⟨?_,out,e',rz,hat⟩,rfl,q ms _ pm (zQA (zBV rz) hpw) hf⟩
  rw [p.length_eq]; exact z
noncomputable def zDR (h:Heap):Value→Int × Int
 | .ref p=>match h.get? p with
  | some o=>match o.data with
   | .seq xs _=>(numOf (xs.getD 0 .none),numOf (xs.getD 1 .none))
   | _=>(0,0)
  | none=>(0,0)
 | _=>(0,0)
noncomputable def ltP (a b:Int × Int):Bool:=decide (a.1<b.1∨a.1=b.1∧a.2<b.2)
theorem zNM (h:Heap) (a₀:Array Keyed):TS.Ord (fun x y=>ltP (zDR h x.1) (zDR h y.1)) a₀ where
 asym:=fun x y _ _ e=>by
  have:=of_decide_eq_true e
  exact decide_eq_false (by omega)
 trans:=fun x y z _ _ _ h1 h2=>by
  have a:=of_decide_eq_false h1
  have b:=of_decide_eq_false h2
  exact decide_eq_false (by omega)
noncomputable def Prs (H:Hp) (ys:List V) (ps:List (Int × Int)):Prop:=Paired (fun (z:V) (p:Int × Int)=>∃ q,z=.ref q∧H q=some (.tup [.int p.1,.int p.2])) ys ps
section
variable {prog:Program} {w:World} {A:Around} {s:Shared}
theorem zNN {b fin:Bool} {Q:Bool→Shared→Prop} {x1 y1 x2 y2:Int} {t1 t2 t3 t4:Tok} (hf:fin=false) (hq:Q (ltP (x1,y1) (x2,y2)) s):PySem.W.KatLex prog w A b fin Q [(.int x1 t1,.int x2 t2),(.int y1 t3,.int y2 t4)] 0 s:=by
 have one:∀ {i:Nat} {u v:Int} {t t':Tok},Q (decide (u<v)) s→wpAny (model prog w) A (oneLt' (b && i == 0) (.int u t) (.int v t')) Q (fun _ _=>False) s:=fun {i u v t t'} h=>by
  cases hb:(b && i == 0) with
  | true=>exact oneLt_int h
  | false=>exact PySem.W.kat_one _ _ (lt_int h)
 refine PySem.W.kat_cons (wpAny_eqBool_int (PySem.W.kat_go (fun h1=>PySem.W.kat_yes (PySem.W.kat_cons (wpAny_eqBool_int (PySem.W.kat_go (fun h2=>PySem.W.kat_yes (PySem.W.kat_nil ?_)) fun h2=>PySem.W.kat_no (one ?_))))) fun h1=>PySem.W.kat_no (one ?_)))
 ·have e1:x1=x2:=by simpa using h1
  have e2:y1=y2:=by simpa using h2
  subst e1; subst e2
  rw [hf]
  have:ltP (x1,y1) (x1,y1)=false:=decide_eq_false (by simp)
  rw [this] at hq
  exact hq
 ·have e1:x1=x2:=by simpa using h1
  subst e1
  have:ltP (x1,y1) (x1,y2)=decide (y1<y2):=by unfold ltP; simp
  rw [this] at hq
  exact hq
 ·have e1:¬ x1=x2:=by simpa using h1
  have:ltP (x1,y1) (x2,y2)=decide (x1<x2):=by unfold ltP; simp [e1]
  rw [this] at hq
  exact hq
end
theorem Prs.perm {H:Hp} {zs ys:List V} (p:zs.Perm ys):∀ {ps:List (Int × Int)},Prs H ys ps→∃ qs,qs.Perm ps∧Prs H zs qs:=by
 induction p with
 | nil=>intro ps r; cases r; exact ⟨[],List.Perm.refl _,.nil⟩
 | cons a _ ih =>
  intro ps r
  cases r with
  | cons h t =>
   obtain ⟨qs,q,r'⟩:=ih t
   exact ⟨_::qs,q.cons _,.cons h r'⟩
 | swap a b l =>
  intro ps r
  cases r with
  | cons h t =>
   cases t with
   | cons h' t'=>exact ⟨_::_::_,List.Perm.swap _ _ _,.cons h' (.cons h t')⟩
 | trans _ _ ih1 ih2 =>
  intro ps r
  obtain ⟨qs,q,r'⟩:=ih2 r
  obtain ⟨us,q',r''⟩:=ih1 r'
  exact ⟨us,q'.trans q,r''⟩
theorem zLT {X:Cx} {pins:List (Addr × Obj)} {σ:St} {H:Hp} {s:Shared} (I:Inv X pins σ H s):∀ {ys:List V} {us:List Value} {ps:List (Int × Int)},Vals ys us→Prs H ys ps →
  (∀ y∈ys,zOW H y)∧us.map (zDR s.heap)=ps∧∀ u∈us,∃ (p:Addr) (o:Obj) (k:Nat) (x y:Int) (t1 t2:Tok),u=.ref p∧s.heap.get? p=some o∧o.data=.seq #[.int x t1,.int y t2] k∧zDR s.heap u=(x,y)
 | _,_,_,.nil,.nil=>⟨(fun y hy=>nomatch hy),rfl,(fun u hu=>nomatch hu)⟩
 | _,_,_,.cons r t,.cons (b:=pp) ⟨q,e,hq⟩ t'=>by
  obtain ⟨i1,i2,i3⟩:=zLT I t t'
  subst e
  cases r
  obtain ⟨its,rv,tp,_⟩:=I.tuple (SqT.of (K:=X.K) hq)
  have hi:IntsAre its [pp.1,pp.2]:=zBV (ns:=[pp.1,pp.2]) rv
  obtain ⟨o,ho,hc,k,hd⟩:=tp
  obtain ⟨t1,t2,rfl⟩:∃ t1 t2,its=[.int pp.1 t1,.int pp.2 t2]:=by
   cases hi with
   | cons _ t1 h2 =>
    cases h2 with
    | cons _ t2 h3=>cases h3; exact ⟨t1,t2,rfl⟩
  have e2:zDR s.heap (.ref q)=(pp.1,pp.2):=by
   unfold zDR
   simp only [ho,hd]
   rfl
  refine ⟨fun y hy=>?_,?_,fun v hv=>?_⟩
  ·rcases List.mem_cons.mp hy with rfl | hy
   ·exact ⟨q,pp.1,[pp.2],rfl,hq⟩
   ·exact i1 y hy
  ·rw [List.map_cons,i2,e2]
  ·rcases List.mem_cons.mp hv with rfl | hv
   ·exact ⟨q,o,k,pp.1,pp.2,t1,t2,rfl,ho,hd,e2⟩
   ·exact i3 v hv
theorem zF6 {X:Cx}:CallR X (.builtin "sorted") (fun xs H Q=>∃ (l:Addr) (ys:List V) (ps:List (Int × Int)),xs=[.ref l]∧SqL X.K H l ys∧Prs H ys ps∧∀ (zs:List V) (qs:List (Int × Int)) (q:Addr),zs.Perm ys→Prs H zs qs→qs.Perm ps→(qs.Pairwise fun a b=>ltP b a=false)→H q=none→Q (.ref q) (upd H q (.lst zs))):=by
 intro pins s σ H xs us Q I r h
 obtain ⟨l,ys,ps,rfl,hl,hps,q⟩:=h
 obtain ⟨u,rfl,ru⟩:=vals1 r
 cases ru
 obtain ⟨its,rv,pl,z⟩:=I.list hl
 have hlen:=rv.length
 obtain ⟨ht,e0,at0⟩:=zLT I rv hps
 obtain ⟨fs,f1,f2,f3,f4⟩:=zLH I rv ht
 refine TS.sorted_inO (LV:=fun x y=>ltP (zDR s.heap x) (zDR s.heap y)) (zNM _ _) pl.isList (by rw [← hlen]; exact z) (fun h6 o6 h2 E'=>?_) fun out ho hpw=>?_
 ·refine PySem.W.kat_kind (T:=.type "int") (zG5 o6 f2) (by rw [f1]; omega) (fun v hv=>?_) (by decide) ⟨rfl,fun x y hx hy Q' E2 hq=>?_⟩
  ·obtain ⟨n,t,rfl⟩:=f3 v hv
   exact PySem.W.Looks.now
  ·have mem:∀ x:Keyed,x∈pairsOf its→x.1∈its:=fun x hx=>by
    have:x∈its.zip its:=by rw [← pairsOf_toList]; exact Array.mem_toList_iff.mpr hx
    exact (List.of_mem_zip this).1
   obtain ⟨p1,o1,k1,x1,y1,t1,t2,e1,ho1,hd1,ep1⟩:=at0 _ (mem x hx)
   obtain ⟨p2,o2,k2,x2,y2,t3,t4,e2,ho2,hd2,ep2⟩:=at0 _ (mem y hy)
   dsimp only at hq
   rw [ep1,ep2] at hq
   rw [e1,e2]
   exact PySem.W.kat_lt (o6 _ _ ho1) hd1 (o6 _ _ ho2) hd2 (zNN rfl hq)
 ·obtain ⟨zs,p,rz⟩:=Vals.perm ho rv
  obtain ⟨qs,pq,hqs⟩:=Prs.perm p hps
  obtain ⟨_,e3,_⟩:=zLT I rz hqs
  obtain ⟨e',hat⟩:=sortedAll_at s.heap its out.toArray
  have hf:H (s.heap.objs.size+1)=none:=I.hok.fresh (Nat.le_succ _)
  have pw:qs.Pairwise fun a b=>ltP b a=false:=by
   rw [← e3,List.pairwise_map]
   exact hpw
  refine ⟨.ref (s.heap.objs.size+1),_,I.laid (t':=s.toks) (o:=.lst zs) (fun b o hb=>sortedAll_old hb) (Nat.le_succ _) ⟨?_,out,e',rz,hat⟩,rfl,q zs qs _ p hqs pq pw hf⟩
  rw [p.length_eq]; exact z
end L2
namespace L2
open PySem PySem.Spec PyProof.Rows
inductive D where
 | non | bl (b:Bool) | int (i:Int) | str (x:Str) | tup (xs:List D) | lst (xs:List D)
 | dk (kvs:List (Key × D)) | dt (kvs:List (List Int × D))
inductive Out (α:Type) where
 | ok (a:α) | exc (c:Nat) | bad
noncomputable def Out.bind {α β:Type}:Out α→(α→Out β)→Out β
 | .ok a,f=>f a
 | .exc c,_=>.exc c
 | .bad,_=>.bad
theorem Out.bind_ok {α β:Type} {x:Out α} {f:α→Out β} {b:β} (h:x.bind f=.ok b):∃ a,x=.ok a∧f a=.ok b:=by
 cases x with
 | ok a=>exact ⟨a,rfl,h⟩
 | exc c=>cases h
 | bad=>cases h
inductive Sl where
 | no | val (d:D) | own (t:Bool) (d:D)
noncomputable abbrev Ev:=List Sl
noncomputable def isDic:HO→Prop
 | .dK _=>True
 | .dT _=>True
 | _=>False
noncomputable def Le (F F':Hp):Prop:=∀ a u,F a=some u→F' a=some u∨(isDic u∧∃ o,F' a=some (.frz o u))
theorem Le.refl (F:Hp):Le F F:=fun _ _ h=>.inl h
theorem Le.trans {F G H:Hp} (x:Le F G) (y:Le G H):Le F H:=fun a u e=>by
 rcases x a u e with h | ⟨hd,o,h⟩
 ·exact y a u h
 ·rcases y a _ h with h | ⟨hd',_⟩
  ·exact .inr ⟨hd,o,h⟩
  ·exact hd'.elim
theorem Le.rd {F F':Hp} (l:Le F F') {a:Addr} {u:HO} (h:Rd F a u):Rd F' a u:=by
 rcases h with h | ⟨o,h⟩
 ·rcases l a u h with h | ⟨_,o,h⟩
  ·exact .inl h
  ·exact .inr ⟨o,h⟩
 ·rcases l a _ h with h | ⟨hd,_⟩
  ·exact .inr ⟨o,h⟩
  ·exact hd.elim
theorem Le.tup {F F':Hp} (l:Le F F') {a:Addr} {vs:List V} (h:F a=some (.tup vs)):F' a=some (.tup vs):=by
 rcases l a _ h with h | ⟨hd,_⟩
 ·exact h
 ·exact hd.elim
theorem Le.of_gr {F F':Hp} (g:Gr F F'):Le F F':=fun a u e=>.inl (g a u e)
mutual
inductive Rep (K:PySem.W.Frag) (F:Hp):V→D→Prop
 | non:Rep K F .non .non
 | bl (b:Bool):Rep K F (.bl b) (.bl b)
 | int (i:Int):Rep K F (.int i) (.int i)
 | str (x:Str):Rep K F (.str x) (.str x)
 | tup {a:Addr} {vs:List V} {ds:List D}:F a=some (.tup vs)→Reps K F vs ds→Rep K F (.ref a) (.tup ds)
 | tupK {a:Addr} {xs:List Str}:SqT K (fun _=>none) a (xs.map V.str)→xs≠[]→Rep K F (.ref a) (.tup (xs.map D.str))
 | lst {a:Addr} {vs:List V} {ds:List D}:SqL K F a vs→Reps K F vs ds→Rep K F (.ref a) (.lst ds)
 | dk {a:Addr} {kvs:List (Key × V)} {ds:List (Key × D)}:Rd F a (.dK kvs)→RepK K F kvs ds→Rep K F (.ref a) (.dk ds)
 | dt {a:Addr} {kvs:List (List Key × V)} {ds:List (List Int × D)}:Rd F a (.dT kvs)→RepT K F kvs ds→Rep K F (.ref a) (.dt ds)
inductive Reps (K:PySem.W.Frag) (F:Hp):List V→List D→Prop
 | nil:Reps K F [] []
 | cons {v:V} {d:D} {vs:List V} {ds:List D}:Rep K F v d→Reps K F vs ds→Reps K F (v::vs) (d::ds)
inductive RepK (K:PySem.W.Frag) (F:Hp):List (Key × V)→List (Key × D)→Prop
 | nil:RepK K F [] []
 | cons {k:Key} {v:V} {d:D} {vs:List (Key × V)} {ds:List (Key × D)}:Rep K F v d→RepK K F vs ds→RepK K F ((k,v)::vs) ((k,d)::ds)
inductive RepT (K:PySem.W.Frag) (F:Hp):List (List Key × V)→List (List Int × D)→Prop
 | nil:RepT K F [] []
 | cons {k:List Int} {v:V} {d:D} {vs:List (List Key × V)} {ds:List (List Int × D)}:Rep K F v d→RepT K F vs ds→RepT K F ((k.map Sum.inl,v)::vs) ((k,d)::ds)
end
section
variable {K:PySem.W.Frag} {F F':Hp}
mutual
theorem Rep.le (l:Le F F'):∀ {v:V} {d:D},Rep K F v d→Rep K F' v d
 | _,_,.non=>.non
 | _,_,.bl b=>.bl b
 | _,_,.int i=>.int i
 | _,_,.str x=>.str x
 | _,_,.tup h r=>.tup (l.tup h) (Reps.le l r)
 | _,_,.tupK h n=>.tupK h n
 | _,_,.lst h r=>.lst (h.imp l.rd id) (Reps.le l r)
 | _,_,.dk h r=>.dk (l.rd h) (RepK.le l r)
 | _,_,.dt h r=>.dt (l.rd h) (RepT.le l r)
theorem Reps.le (l:Le F F'):∀ {v:List V} {d:List D},Reps K F v d→Reps K F' v d
 | _,_,.nil=>.nil
 | _,_,.cons h r=>.cons (Rep.le l h) (Reps.le l r)
theorem RepK.le (l:Le F F'):∀ {v:List (Key × V)} {d:List (Key × D)},RepK K F v d→RepK K F' v d
 | _,_,.nil=>.nil
 | _,_,.cons h r=>.cons (Rep.le l h) (RepK.le l r)
theorem RepT.le (l:Le F F'):∀ {v:List (List Key × V)} {d:List (List Int × D)},RepT K F v d→RepT K F' v d
 | _,_,.nil=>.nil
 | _,_,.cons h r=>.cons (Rep.le l h) (RepT.le l r)
end
theorem Reps.length:∀ {vs:List V} {ds:List D},Reps K F vs ds→vs.length=ds.length
 | _,_,.nil=>rfl
 | _,_,.cons _ r=>by rw [List.length_cons,List.length_cons,r.length]
theorem Reps.append:∀ {vs ws:List V} {ds es:List D},Reps K F vs ds→Reps K F ws es→Reps K F (vs++ws) (ds++es)
 | _,_,_,_,.nil,s=>s
 | _,_,_,_,.cons h r,s=>.cons h (Reps.append r s)
theorem Reps.get:∀ {vs:List V} {ds:List D} {i:Nat} {d:D},Reps K F vs ds→ds[i]?=some d→∃ v,vs[i]?=some v∧Rep K F v d
 | _,_,_,_,.nil,e=>by simp at e
 | _,_,0,_,.cons h _,e=>by simp at e; subst e; exact ⟨_,rfl,h⟩
 | _,_,i+1,d,.cons _ r,e=>by
  obtain ⟨v,h1,h2⟩:=Reps.get (i:=i) (d:=d) r (by simpa using e)
  exact ⟨v,by simpa using h1,h2⟩
theorem Reps.set:∀ {vs:List V} {ds:List D} (i:Nat) {v:V} {d:D},Reps K F vs ds→Rep K F v d→Reps K F (vs.set i v) (ds.set i d)
 | _,_,_,_,_,.nil,_=>.nil
 | _,_,0,_,_,.cons _ r,h=>.cons h r
 | _,_,i+1,_,_,.cons q r,h=>.cons q (Reps.set i r h)
theorem Reps.take:∀ {vs:List V} {ds:List D} (n:Nat),Reps K F vs ds→Reps K F (vs.take n) (ds.take n)
 | _,_,0,_=>.nil
 | _,_,_+1,.nil=>.nil
 | _,_,n+1,.cons h r=>.cons h (Reps.take n r)
theorem Reps.drop:∀ {vs:List V} {ds:List D} (n:Nat),Reps K F vs ds→Reps K F (vs.drop n) (ds.drop n)
 | _,_,0,r=>r
 | _,_,_+1,.nil=>.nil
 | _,_,n+1,.cons _ r=>Reps.drop n r
theorem Reps.eraseIdx:∀ {vs:List V} {ds:List D} (i:Nat),Reps K F vs ds→Reps K F (vs.eraseIdx i) (ds.eraseIdx i)
 | _,_,_,.nil=>.nil
 | _,_,0,.cons _ r=>r
 | _,_,i+1,.cons h r=>.cons h (Reps.eraseIdx i r)
theorem Reps.rep (n:Nat) {vs:List V} {ds:List D} (r:Reps K F vs ds):Reps K F (List.replicate n vs).flatten (List.replicate n ds).flatten:=by
 induction n with
 | zero=>exact .nil
 | succ n ih=>rw [List.replicate_succ,List.flatten_cons,List.replicate_succ,List.flatten_cons]; exact r.append ih
theorem Reps.nil_iff {vs:List V} {ds:List D} (r:Reps K F vs ds):vs=[]↔ds=[]:=by cases r <;> simp
theorem Reps.ints:∀ ns:List Int,Reps K F (ns.map V.int) (ns.map D.int)
 | []=>.nil
 | n::ns=>.cons (.int n) (Reps.ints ns)
theorem Reps.vint:∀ {ns:List Int} {vs:List V},Reps K F vs (ns.map D.int)→vs=ns.map V.int
 | [],_,.nil=>rfl
 | _::_,_,.cons h r=>by cases h; rw [Reps.vint r]; rfl
theorem Reps.vbl:∀ {bs:List Bool} {vs:List V},Reps K F vs (bs.map D.bl)→vs=bs.map V.bl
 | [],_,.nil=>rfl
 | _::_,_,.cons h r=>by cases h; rw [Reps.vbl r]; rfl
theorem Reps.vstr:∀ {bs:List Str} {vs:List V},Reps K F vs (bs.map D.str)→vs=bs.map V.str
 | [],_,.nil=>rfl
 | _::_,_,.cons h r=>by cases h; rw [Reps.vstr r]; rfl
end
noncomputable def Sub (F H:Hp):Prop:=∀ a u,F a=some u→H a=some u
theorem Sub.rd {F H:Hp} (s:Sub F H) {a:Addr} {u:HO} (h:Rd F a u):Rd H a u:=h.imp (s a u) fun ⟨o,h⟩=>⟨o,s a _ h⟩
noncomputable def OwnAt (K:PySem.W.Frag) (F H:Hp) (a:Addr):D→Prop
 | .lst ds=>∃ vs,H a=some (.lst vs)∧Reps K F vs ds
 | .dk ds=>∃ kvs,H a=some (.dK kvs)∧RepK K F kvs ds
 | .dt ds=>∃ kvs,H a=some (.dT kvs)∧RepT K F kvs ds
 | _=>False
noncomputable def ownHO:HO→Prop
 | .lst _=>True
 | .dK _=>True
 | .dT _=>True
 | _=>False
theorem OwnAt.ho {K:PySem.W.Frag} {F H:Hp} {a:Addr} {d:D} (h:OwnAt K F H a d):∃ o,H a=some o∧ownHO o:=by
 cases d with
 | lst ds=>obtain ⟨vs,e,_⟩:=h; exact ⟨_,e,trivial⟩
 | dk ds=>obtain ⟨vs,e,_⟩:=h; exact ⟨_,e,trivial⟩
 | dt ds=>obtain ⟨vs,e,_⟩:=h; exact ⟨_,e,trivial⟩
 | _=>exact h.elim
theorem OwnAt.mono {K:PySem.W.Frag} {F F' H H':Hp} {a:Addr} {d:D} (h:OwnAt K F H a d) (l:Le F F') (e:H' a=H a):OwnAt K F' H' a d:=by
 cases d with
 | lst ds=>obtain ⟨vs,q,r⟩:=h; exact ⟨vs,e.trans q,r.le l⟩
 | dk ds=>obtain ⟨vs,q,r⟩:=h; exact ⟨vs,e.trans q,r.le l⟩
 | dt ds=>obtain ⟨vs,q,r⟩:=h; exact ⟨vs,e.trans q,r.le l⟩
 | _=>exact h.elim
theorem OwnAt.rep {K:PySem.W.Frag} {F H:Hp} {a:Addr} {d:D} (h:OwnAt K F H a d) (n:F a=none) {o:HO} (eo:H a=some o):Rep K (upd F a o) (.ref a) d:=by
 have l:Le F (upd F a o):=.of_gr (Gr.new n)
 cases d with
 | lst ds=>obtain ⟨vs,q,r⟩:=h; rw [eo] at q; cases q; exact .lst (.inl (.inl zAC)) (r.le l)
 | dk ds=>obtain ⟨vs,q,r⟩:=h; rw [eo] at q; cases q; exact .dk (.inl zAC) (r.le l)
 | dt ds=>obtain ⟨vs,q,r⟩:=h; rw [eo] at q; cases q; exact .dt (.inl zAC) (r.le l)
 | _=>exact h.elim
noncomputable def owA (σ:St) (E:Ev) (a:Addr):Prop:=∃ (i:Nat) (t:Bool) (d:D),E[i]?=some (Sl.own t d)∧σ[i]?=some (some (V.ref a))
structure Sim (K:PySem.W.Frag) (H₀:Hp) (τ:Addr) (F H:Hp) (σ:St) (E:Ev):Prop where
 sub:Sub F H
 len:E.length=σ.length
 val:∀ (i:Nat) d,E[i]?=some (.val d)→∃ v,σ[i]?=some (some v)∧Rep K F v d
 own:∀ (i:Nat) t d,E[i]?=some (.own t d)→∃ a,σ[i]?=some (some (.ref a))∧F a=none∧OwnAt K F H a d∧(∀ o u,H₀ a≠some (.frz o u))∧(t=true→τ=a)
 inj:∀ (i j:Nat) t u d e a,E[i]?=some (.own t d)→E[j]?=some (.own u e)→σ[i]?=some (some (.ref a))→σ[j]?=some (some (.ref a))→i=j
noncomputable def Nw (H:Hp) (a:Addr):Prop:=∀ o,H a=some o→¬ ownHO o
theorem Nw.none {H:Hp} {a:Addr} (h:H a=none):Nw H a:=fun o e=>by rw [h] at e; cases e
structure Stp (ow:Addr→Prop) (F H F' H':Hp) (ow':Addr→Prop):Prop where
 keep:∀ a o,H a=some o→ownHO o→F a=none→¬ ow a→H' a=some o
 dom:∀ a,H' a=none→H a=none
 le:Le F F'
 new:∀ a o,F' a=some o→F a≠none∨Nw H a∨ow a
 own:∀ a,ow' a→ow a∨H a=none
section
variable {K:PySem.W.Frag} {H₀:Hp} {τ:Addr} {F H F' H' F1 H1 F2 H2:Hp} {σ σ':St} {E E':Ev} {ow ow1 ow2:Addr→Prop}
theorem Stp.refl:Stp ow F H F H ow:=⟨fun _ _ h _ _ _=>h,fun _ h=>h,.refl _,fun a o e=>.inl (by rw [e]; exact nofun),fun _ h=>.inl h⟩
theorem Stp.nF (x : Stp ow F H F1 H1 ow1) {a : Addr} {o : HO} (hf : F a = none) (e : H a = some o) (hw : ownHO o) (ho : ¬ ow a) : F1 a = none := by
  cases e1 : F1 a with
  | none => rfl
  | some u => rcases x.new a u e1 with z | z | z
              · exact absurd hf z
              · exact absurd hw (z o e)
              · exact absurd z ho
theorem Stp.nw (x:Stp ow F H F1 H1 ow1) {a:Addr} (z:Nw H1 a):F a≠none∨Nw H a∨ow a:=by
 by_cases h1:F a=none
 ·by_cases h2:ow a
  ·exact .inr (.inr h2)
  ·exact .inr (.inl fun o e hw=>z o (x.keep a o e hw h1 h2) hw)
 ·exact .inl h1
theorem Stp.trans (x:Stp ow F H F1 H1 ow1) (y:Stp ow1 F1 H1 F2 H2 ow2):Stp ow F H F2 H2 ow2:=by
 have o1:∀ a,H a≠none→¬ ow a→¬ ow1 a:=fun a hh ho z=>(x.own a z).elim ho hh
 refine ⟨fun a o e hw hf ho=>?_,fun a h=>x.dom a (y.dom a h),x.le.trans y.le,fun a o e=>?_,fun a h=>?_⟩
 ·have hh:H a≠none:=by rw [e]; exact nofun
  exact y.keep a o (x.keep a o e hw hf ho) hw (x.nF hf e hw ho) (o1 a hh ho)
 ·rcases y.new a o e with z | z | z
  ·cases e1:F1 a with
   | none=>exact absurd e1 z
   | some u=>exact x.new a u e1
  ·exact x.nw z
  ·exact (x.own a z).elim (fun q=>.inr (.inr q)) fun q=>.inr (.inl (.none q))
 ·exact (y.own a h).elim (x.own a) fun q=>.inr (x.dom a q)
theorem Stp.weak (x:Stp ow F H F1 H1 ow1) (h:∀ a,ow2 a→ow1 a):Stp ow F H F1 H1 ow2:=⟨x.keep,x.dom,x.le,x.new,fun a q=>x.own a (h a q)⟩
noncomputable def New (F H F' H':Hp):Prop:=Stp (fun _=>False) F H F' H' (fun _=>False)∧Sub F' H'
theorem New.stp (n:New F H F' H'):Stp ow F H F' H' ow :=
 ⟨fun a o e hw hf _=>n.1.keep a o e hw hf id,n.1.dom,n.1.le,fun a o e=>(n.1.new a o e).elim .inl fun z=>z.elim (fun z=>.inr (.inl z)) fun z=>z.elim,fun _ h=>.inl h⟩
theorem New.refl (s:Sub F H):New F H F H:=⟨Stp.refl,s⟩
theorem New.laid {p:Addr} {o:HO} (s:Sub F H) (h:H p=none):New F H (upd F p o) (upd H p o):=by
 have hf:F p=none:=by
  cases e:F p with
  | none=>rfl
  | some u=>rw [s p u e] at h; cases h
 refine ⟨⟨fun a u e _ _ _=>by rw [zAF (zAV e h)]; exact e,fun a e=>?_,.of_gr (Gr.new hf),fun a u e=>?_,fun _ z=>z.elim⟩,fun a u e=>?_⟩
 ·by_cases ha:a=p
  ·subst ha; rw [zAC] at e; cases e
  ·rw [zAF ha] at e; exact e
 ·by_cases ha:a=p
  ·subst ha; exact .inr (.inl (.none h))
  ·rw [zAF ha] at e; exact .inl (by rw [e]; exact nofun)
 ·by_cases ha:a=p
  ·subst ha; rw [zAC] at e ⊢; exact e
  ·rw [zAF ha] at e ⊢; exact s a u e
theorem Gr.dom (g:Gr H H') (a:Addr) (e:H' a=none):H a=none:=by
 cases q:H a with
 | none=>rfl
 | some o=>rw [g a o q] at e; cases e
theorem New.junk (s:Sub F H) (g:Gr H H'):New F H F H' :=
 ⟨⟨fun a o e _ _ _=>g a o e,g.dom,.refl _,fun a o e=>.inl (by rw [e]; exact nofun),fun _ z=>z.elim⟩,fun a u e=>g a u (s a u e)⟩
noncomputable def gro (F H H':Hp):Hp:=fun a=>match H a with | none=>H' a | some _=>F a
theorem zIE {a:Addr} (h:H a=none):gro F H H' a=H' a:=by unfold gro; rw [h]
theorem zIF {a:Addr} {o:HO} (h:H a=some o):gro F H H' a=F a:=by unfold gro; rw [h]
theorem New.gro (s:Sub F H) (g:Gr H H'):New F H (gro F H H') H':=by
 refine ⟨⟨fun a o e _ _ _=>g a o e,g.dom,.of_gr fun a u e=>by rw [zIF (s a u e)]; exact e,fun a o e=>?_,fun _ z=>z.elim⟩,fun a u e=>?_⟩
 ·cases q:H a with
  | none=>exact .inr (.inl (.none q))
  | some v=>rw [zIF q] at e; exact .inl (by rw [e]; exact nofun)
 ·cases q:H a with
  | none=>rw [zIE q] at e; exact e
  | some v=>rw [zIF q] at e; exact g a u (s a u e)
theorem Sim.new (S:Sim K H₀ τ F H σ E) (n:New F H F' H'):Sim K H₀ τ F' H' σ E where
 sub:=n.2
 len:=S.len
 val:=fun i d e=>let ⟨v,h1,h2⟩:=S.val i d e; ⟨v,h1,h2.le n.1.le⟩
 own:=fun i t d e=>by
  obtain ⟨a,h1,h2,h3,h4⟩:=S.own i t d e
  obtain ⟨o,ho,hw⟩:=h3.ho
  exact ⟨a,h1,n.1.nF h2 ho hw id,h3.mono n.1.le ((n.1.keep a o ho hw h2 id).trans ho.symm),h4⟩
 inj:=S.inj
theorem Sim.fresh (S:Sim K H₀ τ F H σ E) {a:Addr} (h:H a=none):¬ owA σ E a:=fun ⟨i,t,d,e,e'⟩=>by
 obtain ⟨b,h1,_,h3,_⟩:=S.own i t d e
 rw [e'] at h1
 cases h1
 obtain ⟨o,ho,_⟩:=h3.ho
 rw [h] at ho; cases ho
end
noncomputable abbrev G:=Ev→Out (D × Ev)
noncomputable def tV (K:PySem.W.Frag) (H₀:Hp) (g:G):TE:=fun σ H Q=>∃ τ F E d E',Sim K H₀ τ F H σ E∧g E=.ok (d,E') ∧
 ∀ v F' H',Stp (owA σ E) F H F' H' (owA σ E')→Sim K H₀ τ F' H' σ E'→Rep K F' v d→Q v H'
noncomputable def tF (K:PySem.W.Frag) (H₀:Hp) (g:G):TE:=fun σ H Q=>∃ τ F E d E',Sim K H₀ τ F H σ E∧g E=.ok (d,E') ∧
 ∀ a F' H',Stp (owA σ E) F H F' H' (owA σ E')→Sim K H₀ τ F' H' σ E'→F' a=none→H a=none→OwnAt K F' H' a d→¬ owA σ E' a→Q (.ref a) H'
noncomputable def tT (K:PySem.W.Frag) (H₀:Hp) (g:Ev→Out (Bool × Ev)):TT:=fun σ H Q=>∃ τ F E b E',Sim K H₀ τ F H σ E∧g E=.ok (b,E') ∧
 ∀ F' H',Stp (owA σ E) F H F' H' (owA σ E')→Sim K H₀ τ F' H' σ E'→Q b H'
theorem PE.imp {X:Cx} {e:Expr} {t t':TE} (h:PE X e t) (hi:∀ σ H Q,t' σ H Q→t σ H Q):PE X e t':=fun pins s σ H Q I q=>h pins s σ H Q I (hi σ H Q q)
theorem PT.imp {X:Cx} {e:Expr} {t t':TT} (h:PT X e t) (hi:∀ σ H Q,t' σ H Q→t σ H Q):PT X e t':=fun pins s σ H Q I q=>h pins s σ H Q I (hi σ H Q q)
theorem PW.imp {X:Cx} {e:Expr} {t t':TT} (h:PW X e t) (hi:∀ σ H Q,t' σ H Q→t σ H Q):PW X e t':=fun w pins s σ H Q I q=>h w pins s σ H Q I (hi σ H Q q)
theorem PS.imp {X:Cx} {e:Stmt} {t t':TS} (h:PS X e t) (hi:∀ D σ H,t' D σ H→t D σ H):PS X e t':=fun pins s σ H D I q=>h pins s σ H D I (hi D σ H q)
theorem PSs.imp {X:Cx} {e:List Stmt} {t t':TS} (h:PSs X e t) (hi:∀ D σ H,t' D σ H→t D σ H):PSs X e t':=fun pins s σ H D I q=>h pins s σ H D I (hi D σ H q)
noncomputable abbrev VE (X:Cx) (e:Expr) (g:G):Prop:=PE X e (tV X.K X.H₀ g)
noncomputable abbrev FE (X:Cx) (e:Expr) (g:G):Prop:=PE X e (tF X.K X.H₀ g)
noncomputable abbrev VT (X:Cx) (e:Expr) (g:Ev→Out (Bool × Ev)):Prop:=PT X e (tT X.K X.H₀ g)
section
variable {X:Cx} {e a b c:Expr} {g ga gb gc:G} {pos:Pos} {K:PySem.W.Frag} {H₀:Hp}
theorem tF.toV {σ:St} {H:Hp} {Q:VK} (h:tV K H₀ g σ H Q):tF K H₀ g σ H Q:=by
 obtain ⟨τ,F,E,d,E',S,hg,k⟩:=h
 refine ⟨τ,F,E,d,E',S,hg,fun p F' H' st S' n n0 ow no=>?_⟩
 obtain ⟨o,ho,hown⟩:=ow.ho
 have nw:Stp (owA σ E) F H (upd F' p o) H' (owA σ E'):=⟨st.keep,st.dom,st.le.trans (.of_gr (Gr.new n)),fun a u e=>by
  by_cases ha:a=p
  ·subst ha; exact .inr (.inl (.none n0))
  ·rw [zAF ha] at e; exact st.new a u e,st.own⟩
 refine k _ _ _ nw ⟨fun a u e=>?_,S'.len,fun i d e=>?_,fun i t d e=>?_,S'.inj⟩ (ow.rep n ho)
 ·by_cases ha:a=p
  ·subst ha; rw [zAC] at e; rw [ho]; exact e
  ·rw [zAF ha] at e; exact S'.sub a u e
 ·obtain ⟨v,h1,h2⟩:=S'.val i d e; exact ⟨v,h1,h2.le (.of_gr (Gr.new n))⟩
 ·obtain ⟨b,h1,h2,h3,h4⟩:=S'.own i t d e
  refine ⟨b,h1,?_,h3.mono (.of_gr (Gr.new n)) rfl,h4⟩
  rw [zAF (fun z=>no ⟨i,t,d,e,by rw [← z]; exact h1⟩)]; exact h2
theorem FE.ve (h:FE X e g):VE X e g:=PE.imp h fun _ _ _ q=>tF.toV q
noncomputable def gVar (i:Nat):G:=fun E=>match E[i]? with
 | some (.val d)=>.ok (d,E)
 | some (.own false d)=>.ok (d,E.set i (.val d))
 | _=>.bad
noncomputable def gC (d:D):G:=fun E=>.ok (d,E)
theorem Sim.share {τ:Addr} {F H:Hp} {σ:St} {E:Ev} {i:Nat} {t:Bool} {d:D} (S:Sim K H₀ τ F H σ E) (e:E[i]?=some (.own t d)) :
  ∃ a F',σ[i]?=some (some (.ref a))∧Stp (owA σ E) F H F' H (owA σ (E.set i (.val d)))∧Sim K H₀ τ F' H σ (E.set i (.val d))∧Rep K F' (.ref a) d:=by
 obtain ⟨a,h1,h2,h3,h4⟩:=S.own i t d e
 obtain ⟨o,ho,_⟩:=h3.ho
 have hi:i<E.length:=(List.getElem?_eq_some_iff.mp e).1
 have l:Le F (upd F a o):=.of_gr (Gr.new h2)
 have old:∀ (j:Nat) t d',(E.set i (.val d))[j]?=some (.own t d')→j≠i∧E[j]?=some (.own t d'):=fun j t d' q=>by
  by_cases hj:i=j
  ·subst hj; rw [List.getElem?_set_self hi] at q; cases q
  ·rw [List.getElem?_set_ne hj] at q; exact ⟨Ne.symm hj,q⟩
 refine ⟨a,upd F a o,h1,⟨fun _ _ q _ _ _=>q,fun _ q=>q,l,fun b u q=>?_,fun b ⟨j,t',d',q1,q2⟩=>.inl ⟨j,t',d',(old j t' d' q1).2,q2⟩⟩,⟨fun b u q=>?_,by rw [List.length_set]; exact S.len,fun j d' q=>?_,fun j t' d' q=>?_,fun j k t1 t2 d1 d2 b q1 q2=>S.inj j k t1 t2 d1 d2 b (old _ _ _ q1).2 (old _ _ _ q2).2⟩,h3.rep h2 ho⟩
 ·by_cases hb:b=a
  ·subst hb; exact .inr (.inr ⟨i,t,d,e,h1⟩)
  ·rw [zAF hb] at q; exact .inl (by rw [q]; exact nofun)
 ·by_cases hb:b=a
  ·subst hb; rw [zAC] at q; rw [ho]; exact q
  ·rw [zAF hb] at q; exact S.sub b u q
 ·by_cases hj:i=j
  ·subst hj; rw [List.getElem?_set_self hi] at q; cases q; exact ⟨_,h1,h3.rep h2 ho⟩
  ·rw [List.getElem?_set_ne hj] at q
   obtain ⟨v,z1,z2⟩:=S.val j d' q
   exact ⟨v,z1,z2.le l⟩
 ·obtain ⟨hj,q⟩:=old j t' d' q
  obtain ⟨b,z1,z2,z3,z4⟩:=S.own j t' d' q
  refine ⟨b,z1,?_,z3.mono l rfl,z4⟩
  rw [zAF (fun z=>hj (S.inj j i t' t d' d a q e (by rw [z1,z]) h1))]; exact z2
theorem v_var (i:Nat) {x:Str} {pos:Pos} (hN:X.N[i]?=some x:=by rfl) (hv:Vis X.env.scope x:=by first | exact Or.inl rfl | exact Or.inr (Or.inl rfl) | exact Or.inr (Or.inr rfl)) (hd:(x == ("__debug__":Str))=false:=by decide)
  (hcd:(x == ("__classdict__":Str))=false:=by decide):VE X (.Name x pos) (gVar i):=(zD5 hN hv hd hcd).imp fun σ H Q h=>by
 obtain ⟨τ,F,E,d,E',S,hg,k⟩:=h
 unfold gVar at hg
 split at hg
 ·cases hg
  rename_i e
  obtain ⟨v,h1,h2⟩:=S.val i _ e
  exact ⟨v,h1,k v F H .refl S h2⟩
 ·cases hg
  rename_i e
  obtain ⟨a,F',h1,h2,h3,h4⟩:=S.share e
  exact ⟨_,h1,k _ F' H h2 h3 h4⟩
 ·cases hg
theorem tC_v {v:V} {d:D} (r:∀ F,Rep K F v d) {σ:St} {H:Hp} {Q:VK} (h:tV K H₀ (gC d) σ H Q):tC v σ H Q:=by
 obtain ⟨τ,F,E,d',E',S,hg,k⟩:=h
 cases hg
 exact k v F H .refl S (r F)
theorem v_int {i j pos}:VE X (.Constant (.int i) j pos) (gC (.int i)):=pe_int.imp fun _ _ _ h=>tC_v (fun _=>.int i) h
theorem v_bl {b j pos}:VE X (.Constant (.bool b) j pos) (gC (.bl b)):=pe_bl.imp fun _ _ _ h=>tC_v (fun _=>.bl b) h
theorem v_non {j pos}:VE X (.Constant .none j pos) (gC .non):=pe_non.imp fun _ _ _ h=>tC_v (fun _=>.non) h
theorem zO0 {x:Str} {v:V} {u:Value} {d:D} {pos:Pos} (hm:X.mg x=some u) (r:RelV v u) (rd:∀ F,Rep X.K F v d) (hg:Gl X x:=by rfl) (hd:(x == ("__debug__":Str))=false:=by decide):VE X (.Name x pos) (gC d):=(zPI hg hm r hd).imp fun _ _ _ h=>tC_v rd h
noncomputable def g2 (f:D→D→Out D) (ga gb:G):G:=fun E=>(ga E).bind fun p=>(gb p.2).bind fun q=>(f p.1 q.1).bind fun d=>.ok (d,q.2)
noncomputable def g1 (f:D→Out D) (ga:G):G:=fun E=>(ga E).bind fun p=>(f p.1).bind fun d=>.ok (d,p.2)
noncomputable def OpS (K:PySem.W.Frag) (rd:R2) (f:D→D→Out D):Prop:=∀ v u x y F H d Q,Sub F H→Rep K F v x→Rep K F u y→f x y=.ok d→(∀ z F' H',New F H F' H'→Rep K F' z d→Q z H')→rd v u H Q
theorem tOp_v {rd:R2} {f:D→D→Out D} (hs:OpS K rd f) {σ:St} {H:Hp} {Q:VK} (h:tV K H₀ (g2 f ga gb) σ H Q):tOp rd (tV K H₀ ga) (tV K H₀ gb) σ H Q:=by
 obtain ⟨τ,F,E,d,E',S,hg,k⟩:=h
 obtain ⟨p,ea,hg⟩:=Out.bind_ok hg
 obtain ⟨q,eb,hg⟩:=Out.bind_ok hg
 obtain ⟨z,ef,hg⟩:=Out.bind_ok hg
 cases hg
 refine ⟨τ,F,E,p.1,p.2,S,ea,fun v F1 H1 st1 S1 r1=>?_⟩
 refine ⟨τ,F1,p.2,q.1,q.2,S1,eb,fun u F2 H2 st2 S2 r2=>?_⟩
 exact hs v u p.1 q.1 F2 H2 d Q S2.sub (r1.le st2.le) r2 ef fun z F3 H3 n r3=>k z F3 H3 ((st1.trans st2).trans n.stp) (S2.new n) r3
theorem v_op {op:Operator} {rd:R2} {f:D→D→Out D} (ho:OpR X (binaryOp op) rd) (hs:OpS X.K rd f) (ha:VE X a ga) (hb:VE X b gb):VE X (.BinOp a op b pos) (g2 f ga gb):=(pe_op ho ha hb).imp fun _ _ _ h=>tOp_v hs h
theorem v_cmp {op:CmpOp} {rd:R2} {f:D→D→Out D} (ho:OpR X (compareOp op) rd) (hs:OpS X.K rd f) (ha:VE X a ga) (hb:VE X b gb) (hm:behindInMarks op b=false):VE X (.Compare a [op] [b] pos) (g2 f ga gb):=(zPP ho ha hb hm).imp fun _ _ _ h=>tOp_v hs h
noncomputable def gB (g:G):Ev→Out (Bool × Ev):=fun E=>(g E).bind fun p=>match p.1 with | .bl b=>.ok (b,p.2) | _=>.bad
theorem zDS {op:CmpOp} {rd:R2} {f:D→D→Out D} (ho:OpR X (compareOp op) rd) (hs:OpS X.K rd f) (ha:VE X a ga) (hb:VE X b gb) (hm:behindInMarks op b=false):VT X (.Compare a [op] [b] pos) (gB (g2 f ga gb)):=(zPQ ho ha hb hm).imp fun σ H Q h=>by
 obtain ⟨τ,F,E,b',E',S,hg,k⟩:=h
 obtain ⟨p,ea,hg⟩:=Out.bind_ok hg
 refine tOp_v hs ⟨τ,F,E,p.1,p.2,S,ea,fun v F1 H1 st1 S1 r1=>?_⟩
 split at hg
 ·rename_i b' eb
  cases hg
  rw [eb] at r1
  cases r1
  exact ⟨_,rfl,k F1 H1 st1 S1⟩
 ·cases hg
noncomputable def gNotT (t:Ev→Out (Bool × Ev)):Ev→Out (Bool × Ev):=fun E=>(t E).bind fun p=>.ok (!p.1,p.2)
noncomputable def gAndT (t u:Ev→Out (Bool × Ev)):Ev→Out (Bool × Ev):=fun E=>(t E).bind fun p=>if p.1=true then u p.2 else .ok (false,p.2)
noncomputable def gOrT (t u:Ev→Out (Bool × Ev)):Ev→Out (Bool × Ev):=fun E=>(t E).bind fun p=>if p.1=true then .ok (true,p.2) else u p.2
theorem zDA {t:Ev→Out (Bool × Ev)} (h:VT X a t):VT X (.UnaryOp .Not a pos) (gNotT t):=(zRV h).imp fun σ H Q q=>by
 obtain ⟨τ,F,E,b',E',S,hg,k⟩:=q
 obtain ⟨p,ea,hg⟩:=Out.bind_ok hg
 cases hg
 exact ⟨τ,F,E,p.1,p.2,S,ea,fun F1 H1 st1 S1=>k F1 H1 st1 S1⟩
noncomputable abbrev VW (X:Cx) (e:Expr) (g:Ev→Out (Bool × Ev)):Prop:=PW X e (tT X.K X.H₀ g)
theorem VW.t {t:Ev→Out (Bool × Ev)} (h:VW X a t):VT X a t:=PW.pt h
theorem zIG {t:Ev→Out (Bool × Ev)} (h:VT X a t):VW X (.BoolOp .And [a] pos) t:=zPK h
theorem zFD {t:Ev→Out (Bool × Ev)} (h:VT X a t):VW X (.BoolOp .Or [a] pos) t:=zRT h
theorem zLU {t u:Ev→Out (Bool × Ev)} {rest:List Expr} (h:VT X a t) (h':VW X (.BoolOp .And (b::rest) pos) u):VW X (.BoolOp .And (a::b::rest) pos) (gAndT t u):=(zRU h h').imp fun σ H Q q=>by
 obtain ⟨τ,F,E,b',E',S,hg,k⟩:=q
 obtain ⟨p,ea,hg⟩:=Out.bind_ok hg
 refine ⟨τ,F,E,p.1,p.2,S,ea,fun F1 H1 st1 S1=>?_⟩
 by_cases hp:p.1=true
 ·rw [if_pos hp] at hg ⊢
  exact ⟨τ,F1,p.2,b',E',S1,hg,fun F2 H2 st2 S2=>k F2 H2 (st1.trans st2) S2⟩
 ·rw [if_neg hp] at hg ⊢
  cases hg
  exact k F1 H1 st1 S1
theorem vw_or {t u:Ev→Out (Bool × Ev)} {rest:List Expr} (h:VT X a t) (h':VW X (.BoolOp .Or (b::rest) pos) u):VW X (.BoolOp .Or (a::b::rest) pos) (gOrT t u):=(pw_or h h').imp fun σ H Q q=>by
 obtain ⟨τ,F,E,b',E',S,hg,k⟩:=q
 obtain ⟨p,ea,hg⟩:=Out.bind_ok hg
 refine ⟨τ,F,E,p.1,p.2,S,ea,fun F1 H1 st1 S1=>?_⟩
 by_cases hp:p.1=true
 ·rw [if_pos hp] at hg ⊢
  cases hg
  exact k F1 H1 st1 S1
 ·rw [if_neg hp] at hg ⊢
  exact ⟨τ,F1,p.2,b',E',S1,hg,fun F2 H2 st2 S2=>k F2 H2 (st1.trans st2) S2⟩
noncomputable def gAnd (ga gb:G):G:=fun E=>(ga E).bind fun p=>match p.1 with | .bl true=>gb p.2 | .bl false=>.ok (.bl false,p.2) | _=>.bad
noncomputable def gNot (ga:G):G:=fun E=>(ga E).bind fun p=>match p.1 with | .bl b=>.ok (.bl (!b),p.2) | _=>.bad
theorem v_one {op} (h:VE X a g):VE X (.BoolOp op [a] pos) g:=zRW h
theorem v_and {rest:List Expr} (ha:VE X a ga) (hb:VE X (.BoolOp .And (b::rest) pos) gb):VE X (.BoolOp .And (a::b::rest) pos) (gAnd ga gb):=(zRX ha hb).imp fun σ H Q q=>by
 obtain ⟨τ,F,E,d,E',S,hg,k⟩:=q
 obtain ⟨p,ea,hg⟩:=Out.bind_ok hg
 refine ⟨τ,F,E,p.1,p.2,S,ea,fun v F1 H1 st1 S1 r1=>?_⟩
 split at hg
 ·rename_i eb
  rw [eb] at r1; cases r1
  exact ⟨true,rfl,iteT ⟨τ,F1,p.2,d,E',S1,hg,fun v F2 H2 st2 S2 r2=>k v F2 H2 (st1.trans st2) S2 r2⟩⟩
 ·rename_i eb
  rw [eb] at r1; cases r1
  cases hg
  exact ⟨false,rfl,iteF (k _ F1 H1 st1 S1 (.bl false))⟩
 ·cases hg
theorem v_not (ha:VE X a ga):VE X (.UnaryOp .Not a pos) (gNot ga):=(zRY ha).imp fun σ H Q q=>by
 obtain ⟨τ,F,E,d,E',S,hg,k⟩:=q
 obtain ⟨p,ea,hg⟩:=Out.bind_ok hg
 refine ⟨τ,F,E,p.1,p.2,S,ea,fun v F1 H1 st1 S1 r1=>?_⟩
 split at hg
 ·rename_i b' eb
  rw [eb] at r1; cases r1
  cases hg
  exact ⟨_,rfl,k _ F1 H1 st1 S1 (.bl _)⟩
 ·cases hg
noncomputable def gIf (t:Ev→Out (Bool × Ev)) (ga gb:G):G:=fun E=>(t E).bind fun p=>if p.1=true then ga p.2 else gb p.2
end
end L2
namespace L2
open PySem PySem.Spec PyProof.Rows
noncomputable def Thw (H₀ H H2:Hp):Prop:=∀ a,H2 a=H a∨∃ o u,H a=some (.frz o u)∧H2 a=some u∧∀ o' u',H₀ a≠some (.frz o' u')
theorem Inv.thaw {X:Cx} {pins:List (Addr × Obj)} {σ:St} {H H2:Hp} {s:Shared} (I:Inv X pins σ H s) (t:Thw X.H₀ H H2):Inv X pins σ H2 s:=by
 have tn:∀ a,H a=none→H2 a=none:=fun a e=>by
  rcases t a with h | ⟨o,u,h,_⟩
  ·rw [h,e]
  ·rw [e] at h; cases h
 have tk:∀ a v,H a=some v→(∀ o u,v≠.frz o u)→H2 a=some v:=fun a v e n=>by
  rcases t a with h | ⟨o,u,h,_⟩
  ·rw [h,e]
  ·rw [e] at h; cases h; exact absurd rfl (n o u)
 refine ⟨I.ok,I.os,I.bare,⟨I.base.keep,I.base.slot,fun b o e n hx=>tn b (I.base.free b o e n hx),I.base.there,fun b xs e=>tk b _ (I.base.tups b xs e) (fun _ _ z=>HO.noConfusion z),fun b o u e=>?_,fun b ps e=>?_⟩,I.loc,I.cell,tn _ I.free,fun x c e=>tn c (I.freeC x c e),fun p hp=>?_,fun b u e=>?_,I.len⟩
 ·rcases t b with h | ⟨o',u',_,_,h⟩
  ·rw [h]; exact I.base.frzs b o u e
  ·exact absurd e (h o u)
 ·obtain ⟨m,h⟩:=I.base.tbls b ps e
  exact ⟨m,tk b _ h (fun _ _ z=>HO.noConfusion z)⟩
 ·obtain ⟨h1,h2,h3⟩:=I.pin p hp
  exact ⟨h1,tn _ h2,h3⟩
 ·have ok:ObjOk X.prog X.w H s.heap b u:=by
   rcases t b with h | ⟨o',u',h1,h2,_⟩
   ·exact I.hok b u (by rw [← h]; exact e)
   ·rw [e] at h2; cases h2
    obtain ⟨_,q⟩:=I.hok b _ h1
    exact q
  exact ok.stay (fun c v _ q=>q) (fun c q=>tk c _ q (fun _ _ z=>HO.noConfusion z)) fun c ys q=>tk c _ q (fun _ _ z=>HO.noConfusion z)
mutual
noncomputable def D.flat:D→Bool
 | .tup xs=>D.flats xs
 | .lst _=>false
 | .dk _=>false
 | .dt _=>false
 | _=>true
noncomputable def D.flats:List D→Bool
 | []=>true
 | d::ds=>d.flat && D.flats ds
end
mutual
noncomputable def D.nod:D→Bool
 | .tup xs=>D.nods xs
 | .lst xs=>D.nods xs
 | .dk _=>false
 | .dt _=>false
 | _=>true
noncomputable def D.nods:List D→Bool
 | []=>true
 | d::ds=>d.nod && D.nods ds
end
section
variable {K:PySem.W.Frag} {F F2:Hp}
mutual
theorem Rep.flat2 (ht:∀ a vs,F a=some (.tup vs)→F2 a=some (.tup vs)):∀ {v:V} {d:D},Rep K F v d→d.flat=true→Rep K F2 v d
 | _,_,.non,_=>.non
 | _,_,.bl b,_=>.bl b
 | _,_,.int i,_=>.int i
 | _,_,.str x,_=>.str x
 | _,_,.tup h r,e=>.tup (ht _ _ h) (Reps.flat2 ht r (by rw [D.flat] at e; exact e))
 | _,_,.tupK h n,_=>.tupK h n
 | _,_,.lst _ _,e=>by rw [D.flat] at e; cases e
 | _,_,.dk _ _,e=>by rw [D.flat] at e; cases e
 | _,_,.dt _ _,e=>by rw [D.flat] at e; cases e
theorem Reps.flat2 (ht:∀ a vs,F a=some (.tup vs)→F2 a=some (.tup vs)):∀ {v:List V} {d:List D},Reps K F v d→D.flats d=true→Reps K F2 v d
 | _,_,.nil,_=>.nil
 | _,_,.cons h r,e=>by
  rw [D.flats,Bool.and_eq_true] at e
  exact .cons (Rep.flat2 ht h e.1) (Reps.flat2 ht r e.2)
end
mutual
theorem Rep.nod2 (ht:∀ a vs,F a=some (.tup vs)→F2 a=some (.tup vs)) (hl:∀ a vs,SqL K F a vs→SqL K F2 a vs):∀ {v:V} {d:D},Rep K F v d→d.nod=true→Rep K F2 v d
 | _,_,.non,_=>.non
 | _,_,.bl b,_=>.bl b
 | _,_,.int i,_=>.int i
 | _,_,.str x,_=>.str x
 | _,_,.tup h r,e=>.tup (ht _ _ h) (Reps.nod2 ht hl r (by rw [D.nod] at e; exact e))
 | _,_,.tupK h n,_=>.tupK h n
 | _,_,.lst h r,e=>.lst (hl _ _ h) (Reps.nod2 ht hl r (by rw [D.nod] at e; exact e))
 | _,_,.dk _ _,e=>by rw [D.nod] at e; cases e
 | _,_,.dt _ _,e=>by rw [D.nod] at e; cases e
theorem Reps.nod2 (ht:∀ a vs,F a=some (.tup vs)→F2 a=some (.tup vs)) (hl:∀ a vs,SqL K F a vs→SqL K F2 a vs):∀ {v:List V} {d:List D},Reps K F v d→D.nods d=true→Reps K F2 v d
 | _,_,.nil,_=>.nil
 | _,_,.cons h r,e=>by
  rw [D.nods,Bool.and_eq_true] at e
  exact .cons (Rep.nod2 ht hl h e.1) (Reps.nod2 ht hl r e.2)
end
end
noncomputable def hideS (is:List Nat) (j:Nat):Sl→Sl
 | .own _ d=>if is.contains j then .val d else .no
 | s=>s
noncomputable def hideF (is:List Nat):Nat→Ev→Ev
 | _,[]=>[]
 | j,s::E=>hideS is j s::hideF is (j+1) E
noncomputable abbrev hide (is:List Nat) (E:Ev):Ev:=hideF is 0 E
theorem zHE (is:List Nat):∀ (E:Ev) (k j:Nat),(hideF is k E)[j]?=(E[j]?).map (hideS is (k+j))
 | [],_,_=>by simp [hideF]
 | s::E,k,0=>by simp [hideF]
 | s::E,k,j+1=>by
  show (hideF is (k+1) E)[j]?=_
  rw [zHE is E (k+1) j,List.getElem?_cons_succ,show k+1+j=k+(j+1) by omega]
theorem zI7 (is:List Nat) (E:Ev) (j:Nat):(hide is E)[j]?=(E[j]?).map (hideS is j):=by rw [zHE]; simp
theorem zHF (is:List Nat):∀ (E:Ev) (k:Nat),(hideF is k E).length=E.length
 | [],_=>rfl
 | s::E,k=>by rw [hideF,List.length_cons,List.length_cons,zHF is E (k+1)]
noncomputable def isLd:Option Sl→Bool
 | some (.own _ (.lst _))=>true
 | _=>false
noncomputable def isDd:Option Sl→Bool
 | some (.own _ (.dk _))=>true
 | some (.own _ (.dt _))=>true
 | _=>false
noncomputable def zEE (is:List Nat) (E:Ev) (d:D):Bool:=(!(is.any fun i=>isLd E[i]?) || d.flat) && (!(is.any fun i=>isDd E[i]?) || d.nod)
noncomputable def gBor (is:List Nat) (g:G):G:=fun E=>(g (hide is E)).bind fun p=>if zEE is E p.1=true then .ok (p.1,E) else .bad
noncomputable def gBorT (is:List Nat) (g:Ev→Out (Bool × Ev)):Ev→Out (Bool × Ev):=fun E=>(g (hide is E)).bind fun p=>.ok (p.1,E)
section
variable {X:Cx} {K:PySem.W.Frag} {H₀ F H F' H':Hp} {τ:Addr} {σ:St} {E:Ev} {is:List Nat}
noncomputable def Lent (σ:St) (E:Ev) (is:List Nat) (a:Addr):Prop:=∃ (i:Nat) (t:Bool) (d:D),i∈is∧E[i]?=some (Sl.own t d)∧σ[i]?=some (some (V.ref a))
theorem Lent.ow {a:Addr} (h:Lent σ E is a):owA σ E a:=let ⟨i,t,d,_,e,q⟩:=h; ⟨i,t,d,e,q⟩
theorem Sim.owned (S:Sim K H₀ τ F H σ E) {a:Addr} (h:owA σ E a):F a=none∧(∃ o,H a=some o∧ownHO o)∧∀ o u,H₀ a≠some (.frz o u):=by
 obtain ⟨i,t,d,e,q⟩:=h
 obtain ⟨b,h1,h2,h3,h4,_⟩:=S.own i t d e
 rw [q] at h1; cases h1
 exact ⟨h2,h3.ho,h4⟩
open Classical in
noncomputable def F1of (σ:St) (E:Ev) (is:List Nat) (F H:Hp):Hp:=fun a=>if Lent σ E is a then H a else F a
open Classical in
noncomputable def F2of (σ:St) (E:Ev) (is:List Nat) (F':Hp):Hp:=fun a=>if Lent σ E is a then none else F' a
open Classical in
noncomputable def H2of (σ:St) (E:Ev) (is:List Nat) (H H':Hp):Hp:=fun a=>if Lent σ E is a then H a else H' a
theorem Sim.lend (S:Sim K H₀ τ F H σ E) (is:List Nat):Sim K H₀ τ (F1of σ E is F H) H σ (hide is E)∧∀ a,¬ owA σ (hide is E) a:=by
 have l:Le F (F1of σ E is F H):=fun a u e=>by
  refine .inl ?_
  unfold F1of
  split
  ·exact S.sub a u e
  ·exact e
 have no:∀ (i:Nat) t d,(hide is E)[i]?≠some (.own t d):=fun i t d e=>by
  rw [zI7] at e
  cases q:E[i]? with
  | none=>rw [q] at e; cases e
  | some s =>
   rw [q] at e
   have e:hideS is i s=.own t d:=Option.some.inj e
   cases s with
   | no=>cases e
   | val _=>cases e
   | own t' d' =>
    by_cases hc:is.contains i=true
    ·rw [show hideS is i (.own t' d')=.val d' from if_pos hc] at e; cases e
    ·rw [show hideS is i (.own t' d')=.no from if_neg hc] at e; cases e
 refine ⟨⟨fun a u e=>?_,by rw [zHF]; exact S.len,fun i d e=>?_,fun i t d e=>absurd e (no i t d),fun i j t u d d' a e=>absurd e (no i t d)⟩,fun a ⟨i,t,d,e,_⟩=>no i t d e⟩
 ·unfold F1of at e
  split at e
  ·exact e
  ·exact S.sub a u e
 ·rw [zI7] at e
  cases q:E[i]? with
  | none=>rw [q] at e; cases e
  | some s =>
   rw [q] at e
   have e:hideS is i s=.val d:=Option.some.inj e
   cases s with
   | no=>cases e
   | val d' =>
    cases e
    obtain ⟨v,h1,h2⟩:=S.val i d q
    exact ⟨v,h1,h2.le l⟩
   | own t' d' =>
    by_cases hc:is.contains i=true
    ·rw [show hideS is i (.own t' d')=.val d' from if_pos hc] at e
     cases e
     obtain ⟨a,h1,h2,h3,_⟩:=S.own i t' d q
     obtain ⟨o,ho,_⟩:=h3.ho
     refine ⟨.ref a,h1,(h3.rep h2 ho).le fun b u e=>.inl ?_⟩
     have la:Lent σ E is a:=⟨i,t',d,by simpa using hc,q,h1⟩
     by_cases hb:b=a
     ·subst hb
      rw [zAC] at e
      unfold F1of
      rw [if_pos la,ho]; exact e
     ·rw [zAF hb] at e
      unfold F1of
      split
      ·exact S.sub b u e
      ·exact e
    ·rw [show hideS is i (.own t' d')=.no from if_neg hc] at e; cases e
theorem Sim.back (S : Sim K H₀ τ F H σ E) (is : List Nat) {ow' : Addr → Prop} (st : Stp (fun _ => False) (F1of σ E is F H) H F' H' ow') (sb : Sub F' H') :
    Thw H₀ H' (H2of σ E is H H') ∧ Stp (owA σ E) F H (F2of σ E is F') (H2of σ E is H H') (owA σ E) ∧ Sim K H₀ τ (F2of σ E is F') (H2of σ E is H H') σ E ∧
    (∀ a u, F' a = some u → (∀ o w, ownHO o → u ≠ o ∧ u ≠ .frz w o) → F2of σ E is F' a = some u) ∧
    ((is.any fun i => isLd E[i]?) = false → ∀ a vs, SqL K F' a vs → SqL K (F2of σ E is F') a vs) := by
  have lh : ∀ a, Lent σ E is a → ∃ o, H a = some o ∧ ownHO o ∧ (F' a = some o ∨ (isDic o ∧ ∃ w, F' a = some (.frz w o))) := fun a h => by
    obtain ⟨_, ⟨o, ho, hw⟩, _⟩ := S.owned h.ow
    refine ⟨o, ho, hw, st.le a o ?_⟩
    unfold F1of
    rw [if_pos h]; exact ho
  have l2 : Le F (F2of σ E is F') := fun a u e => by
    have hn : ¬ Lent σ E is a := fun h => by rw [(S.owned h.ow).1] at e; cases e
    unfold F2of
    rw [if_neg hn]
    exact st.le a u (by unfold F1of; rw [if_neg hn]; exact e)
  have kp : ∀ a o, H a = some o → ownHO o → F a = none → H2of σ E is H H' a = some o := fun a o e hw n => by
    unfold H2of
    by_cases h : Lent σ E is a
    · rw [if_pos h]; exact e
    · rw [if_neg h]; exact st.keep a o e hw (by unfold F1of; rw [if_neg h]; exact n) id
  have nw : ∀ a o, F2of σ E is F' a = some o → F a ≠ none ∨ Nw H a := fun a o e => by
    unfold F2of at e
    by_cases h : Lent σ E is a
    · rw [if_pos h] at e; cases e
    · rw [if_neg h] at e
      rcases st.new a o e with z | z | z
      · unfold F1of at z; rw [if_neg h] at z; exact .inl z
      · exact .inr z
      · exact z.elim
  refine ⟨fun a => ?_, ⟨fun a o e hw n _ => kp a o e hw n, fun a e => ?_, l2, fun a o e => (nw a o e).imp_right .inl, fun _ h => .inl h⟩, ⟨fun a u e => ?_, S.len, fun i d e => ?_, fun i t d e => ?_, S.inj⟩, fun a u e hn => ?_, fun hl a vs h => ?_⟩
  · by_cases h : Lent σ E is a
    · obtain ⟨o, ho, _, z | ⟨_, w, z⟩⟩ := lh a h
      · exact .inl (by unfold H2of; rw [if_pos h, sb a o z, ho])
      · exact .inr ⟨w, o, sb a _ z, by unfold H2of; rw [if_pos h, ho], (S.owned h.ow).2.2⟩
    · exact .inl (by unfold H2of; rw [if_neg h])
  · unfold H2of at e
    by_cases h : Lent σ E is a
    · rw [if_pos h] at e; exact e
    · rw [if_neg h] at e; exact st.dom a e
  · unfold F2of at e
    by_cases h : Lent σ E is a
    · rw [if_pos h] at e; cases e
    · rw [if_neg h] at e
      unfold H2of
      rw [if_neg h]; exact sb a u e
  · obtain ⟨v, h1, h2⟩ := S.val i d e
    exact ⟨v, h1, h2.le l2⟩
  · obtain ⟨a, h1, h2, h3, h4⟩ := S.own i t d e
    obtain ⟨o, ho, hw⟩ := h3.ho
    refine ⟨a, h1, ?_, h3.mono l2 ((kp a o ho hw h2).trans ho.symm), h4⟩
    cases q : F2of σ E is F' a with
    | none => rfl
    | some u => rcases nw a u q with z | z
                · exact absurd h2 z
                · exact absurd hw (z o ho)
  · unfold F2of
    by_cases h : Lent σ E is a
    · obtain ⟨o, ho, hw, z | ⟨_, w, z⟩⟩ := lh a h
      · rw [e] at z; cases z; exact absurd rfl (hn u default hw).1
      · rw [e] at z; cases z; exact absurd rfl (hn o w hw).2
    · rw [if_neg h]; exact e
  · rcases h with h | h
    case inr => exact .inr h
    refine .inl ?_
    have hn : ¬ Lent σ E is a := fun hh => by
      obtain ⟨o, ho, hw, z⟩ := lh a hh
      obtain ⟨i, t, d, hi, e, q⟩ := id hh
      have hld : isLd E[i]? = false := by
        have := List.any_eq_false.mp hl i hi
        simpa using this
      obtain ⟨b, h1, h2, h3, _⟩ := S.own i t d e
      rw [q] at h1; cases h1
      have od : isDic o := by
        cases d with
        | lst ds => rw [e] at hld; cases hld
        | dk ds => obtain ⟨_, q, _⟩ := h3; rw [ho] at q; cases q; trivial
        | dt ds => obtain ⟨_, q, _⟩ := h3; rw [ho] at q; cases q; trivial
        | _ => exact h3.elim
      rcases h with h | ⟨w, h⟩ <;> rcases z with z | ⟨_, w', z⟩ <;> rw [h] at z <;> cases z <;> exact od
    unfold Rd F2of
    rw [if_neg hn]
    exact h
theorem zNO (S:Sim K H₀ τ F H σ E) (is:List Nat) {ow':Addr→Prop} (st:Stp (fun _=>False) (F1of σ E is F H) H F' H' ow') (sb:Sub F' H') {v:V} {d:D} (hl:zEE is E d=true) (r:Rep K F' v d):Rep K (F2of σ E is F') v d:=by
 obtain ⟨_,_,_,h1,h2⟩:=S.back is st sb
 have ht:∀ a vs,F' a=some (.tup vs)→F2of σ E is F' a=some (.tup vs):=fun a vs e=>h1 a _ e fun o w ho=>⟨fun z=>by subst z; exact ho,fun z=>HO.noConfusion z⟩
 unfold zEE at hl
 rw [Bool.and_eq_true,Bool.or_eq_true,Bool.or_eq_true] at hl
 rcases hl.1 with z | z
 ·rcases hl.2 with y | y
  ·-- nothing is lent at all
   have no:∀ a,¬ Lent σ E is a:=fun a ⟨i,t,d,hi,e,q⟩=>by
    have e1:isLd E[i]?=false:=by have:=List.any_eq_false.mp (by simpa using z) i hi; simpa using this
    have e2:isDd E[i]?=false:=by have:=List.any_eq_false.mp (by simpa using y) i hi; simpa using this
    obtain ⟨b,_,_,h3,_⟩:=S.own i t d e
    rw [e] at e1 e2
    cases d with
    | lst ds=>cases e1
    | dk ds=>cases e2
    | dt ds=>cases e2
    | _=>exact h3.elim
   exact r.le fun a u e=>.inl (by unfold F2of; rw [if_neg (no a)]; exact e)
  ·exact Rep.nod2 ht (h2 (by simpa using z)) r y
 ·exact Rep.flat2 ht r z
theorem Stp.toF {ow ow':Addr→Prop} (h:∀ a,¬ ow a) (st:Stp ow F H F' H' ow'):Stp (fun _=>False) F H F' H' ow' :=
 ⟨fun a o e hw n _=>st.keep a o e hw n (h a),st.dom,st.le,fun a o e=>(st.new a o e).imp_right fun z=>z.imp_right (h a),fun a z=>(st.own a z).elim (fun z=>absurd z (h a)) .inr⟩
theorem v_bor {e:Expr} {g:G} (is:List Nat) (h:VE X e g):VE X e (gBor is g):=by
 intro pins s σ H Q I ⟨τ,F,E,d,E',S,hg,k⟩
 obtain ⟨p,eg,hg⟩:=Out.bind_ok hg
 split at hg
 ·rename_i hl
  cases hg
  obtain ⟨S1,no⟩:=S.lend is
  refine thn (h pins s σ H (fun v H'=>∃ F' ow',Stp (fun _=>False) (F1of σ E is F H) H F' H' ow'∧Sub F' H'∧Rep X.K F' v p.1) I ⟨τ,_,_,p.1,p.2,S1,eg,fun v F' H' st S' r=>⟨F',_,st.toF no,S'.sub,r⟩⟩) fun u s' ⟨v,H',I',rv,F',ow',st,sb,r⟩=>?_
  obtain ⟨t1,t2,t3,_⟩:=S.back is st sb
  exact ⟨v,_,I'.thaw t1,rv,k v _ _ t2 t3 (zNO S is st sb hl r)⟩
 ·cases hg
theorem zEF {e:Expr} {g:Ev→Out (Bool × Ev)} (is:List Nat) (h:VT X e g):VT X e (gBorT is g):=by
 intro pins s σ H Q I ⟨τ,F,E,d,E',S,hg,k⟩
 obtain ⟨p,eg,hg⟩:=Out.bind_ok hg
 cases hg
 obtain ⟨S1,no⟩:=S.lend is
 refine thn (h pins s σ H (fun b H'=>b=p.1∧∃ F' ow',Stp (fun _=>False) (F1of σ E is F H) H F' H' ow'∧Sub F' H') I ⟨τ,_,_,p.1,p.2,S1,eg,fun F' H' st S'=>⟨rfl,F',_,st.toF no,S'.sub⟩⟩) fun u s' ⟨H',I',eb,F',ow',st,sb⟩=>?_
 obtain ⟨t1,t2,t3,_⟩:=S.back is st sb
 subst eb
 exact ⟨_,I'.thaw t1,k _ _ t2 t3⟩
end
end L2
namespace L2
open PySem PySem.Spec PyProof.Rows
inductive Fl where
 | nx (E:Ev) | rt (b:Bool) (d:D) (E:Ev) | bk (E:Ev) | ct (E:Ev)
noncomputable abbrev GS:=Ev→Out Fl
noncomputable def RetR (K:PySem.W.Frag) (ow:Addr→Prop) (H:Hp) (F' H':Hp) (σ':St) (E':Ev):Bool→V→D→Prop
 | false,v,d=>Rep K F' v d
 | true,v,d=>∃ a,v=.ref a∧F' a=none∧OwnAt K F' H' a d∧(ow a∨H a=none)∧∀ (i:Nat) d',E'[i]?=some (.own true d')→σ'[i]?≠some (some (.ref a))
noncomputable def FlOk (K:PySem.W.Frag) (H₀:Hp) (τ:Addr) (ow:Addr→Prop) (F H:Hp) (D:Ends):Fl→Prop
 | .nx E'=>∀ σ' F' H',Stp ow F H F' H' (owA σ' E')→Sim K H₀ τ F' H' σ' E'→D.nx σ' H'
 | .bk E'=>∀ σ' F' H',Stp ow F H F' H' (owA σ' E')→Sim K H₀ τ F' H' σ' E'→D.bk σ' H'
 | .ct E'=>∀ σ' F' H',Stp ow F H F' H' (owA σ' E')→Sim K H₀ τ F' H' σ' E'→D.ct σ' H'
 | .rt b d E'=>∀ σ' v F' H',Stp ow F H F' H' (owA σ' E')→Sim K H₀ τ F' H' σ' E'→RetR K ow H F' H' σ' E' b v d→D.rt v H'
noncomputable def tS (K:PySem.W.Frag) (H₀:Hp) (g:GS):TS:=fun D σ H=>∃ τ F E r,Sim K H₀ τ F H σ E∧g E=.ok r∧FlOk K H₀ τ (owA σ E) F H D r
noncomputable abbrev VS (X:Cx) (st:Stmt) (g:GS):Prop:=PS X st (tS X.K X.H₀ g)
noncomputable abbrev VSs (X:Cx) (st:List Stmt) (g:GS):Prop:=PSs X st (tS X.K X.H₀ g)
section
variable {X:Cx} {K:PySem.W.Frag} {H₀ F H F1 H1:Hp} {τ:Addr} {ow ow1:Addr→Prop} {D':Ends} {st:Stmt} {rest:List Stmt} {g g':GS} {pos:Pos} {e:Expr} {ge:G}
theorem RetR.pre {F' H':Hp} {σ':St} {E':Ev} {b:Bool} {v:V} {d:D} (s:Stp ow F H F1 H1 ow1) (h:RetR K ow1 H1 F' H' σ' E' b v d):RetR K ow H F' H' σ' E' b v d:=by
 cases b with
 | false=>exact h
 | true =>
  obtain ⟨a,h1,h2,h3,h4,h5⟩:=h
  exact ⟨a,h1,h2,h3,h4.elim (s.own a) fun z=>.inr (s.dom a z),h5⟩
theorem FlOk.pre {r:Fl} (s:Stp ow F H F1 H1 ow1) (h:FlOk K H₀ τ ow F H D' r):FlOk K H₀ τ ow1 F1 H1 D' r:=by
 cases r with
 | nx E'=>exact fun σ' F' H' st S=>h σ' F' H' (s.trans st) S
 | bk E'=>exact fun σ' F' H' st S=>h σ' F' H' (s.trans st) S
 | ct E'=>exact fun σ' F' H' st S=>h σ' F' H' (s.trans st) S
 | rt b d E'=>exact fun σ' v F' H' st S q=>h σ' v F' H' (s.trans st) S (q.pre s)
noncomputable def gNx:GS:=fun E=>.ok (.nx E)
noncomputable def gSeq (g g':GS):GS:=fun E=>(g E).bind fun r=>match r with | .nx E1=>g' E1 | r=>.ok r
theorem zA8:VSs X [] gNx:=pss_nil.imp fun D' σ H h=>by
 obtain ⟨τ,F,E,r,S,hg,k⟩:=h
 cases hg
 exact k σ F H .refl S
theorem zSP {σ:St} (h:tS K H₀ (gSeq g g') D' σ H):tSeq (tS K H₀ g) (tS K H₀ g') D' σ H:=by
 obtain ⟨τ,F,E,r,S,hg,k⟩:=h
 obtain ⟨r1,e1,hg⟩:=Out.bind_ok hg
 refine ⟨τ,F,E,r1,S,e1,?_⟩
 cases r1 with
 | nx E1=>exact fun σ' F' H' st S'=>⟨τ,F',E1,r,S',hg,k.pre st⟩
 | bk E1=>cases hg; exact k
 | ct E1=>cases hg; exact k
 | rt b d E1=>cases hg; exact k
theorem zAD (h1:VS X st g) (h2:VSs X rest g'):VSs X (st::rest) (gSeq g g'):=(zD0 h1 h2).imp fun _ _ _ h=>zSP h
theorem zAK (h:VS X st g):VSs X [st] g:=zHY h
noncomputable def gIfS (t:Ev→Out (Bool × Ev)) (g g':GS):GS:=fun E=>(t E).bind fun p=>if p.1=true then g p.2 else g' p.2
theorem vs_if {c:Expr} {a b:List Stmt} {t:Ev→Out (Bool × Ev)} (hc:VT X c t) (ha:VSs X a g) (hb:VSs X b g'):VS X (.If c a b pos) (gIfS t g g'):=(ps_if hc ha hb).imp fun D' σ H h=>by
 obtain ⟨τ,F,E,r,S,hg,k⟩:=h
 obtain ⟨p,e1,hg⟩:=Out.bind_ok hg
 refine ⟨τ,F,E,p.1,p.2,S,e1,fun F1 H1 s1 S1=>?_⟩
 by_cases hp:p.1=true
 ·rw [if_pos hp] at hg ⊢
  exact ⟨τ,F1,p.2,r,S1,hg,k.pre s1⟩
 ·rw [if_neg hp] at hg ⊢
  exact ⟨τ,F1,p.2,r,S1,hg,k.pre s1⟩
noncomputable def gRet (g:G):GS:=fun E=>(g E).bind fun p=>.ok (.rt false p.1 p.2)
theorem zAZ (h:VE X e ge):VS X (.Return (some e) pos) (gRet ge):=(zKQ h).imp fun D' σ H q=>by
 obtain ⟨τ,F,E,r,S,hg,k⟩:=q
 obtain ⟨p,e1,hg⟩:=Out.bind_ok hg
 cases hg
 exact ⟨τ,F,E,p.1,p.2,S,e1,fun v F1 H1 s1 S1 r1=>k σ v F1 H1 s1 S1 r1⟩
noncomputable def gRetF (g:G):GS:=fun E=>(g E).bind fun p=>.ok (.rt true p.1 p.2)
theorem zLV (h:FE X e ge):VS X (.Return (some e) pos) (gRetF ge):=(zKQ h).imp fun D' σ H q=>by
 obtain ⟨τ,F,E,r,S,hg,k⟩:=q
 obtain ⟨p,e1,hg⟩:=Out.bind_ok hg
 cases hg
 exact ⟨τ,F,E,p.1,p.2,S,e1,fun a F1 H1 s1 S1 n1 n2 ow no=>k σ _ F1 H1 s1 S1 ⟨a,rfl,n1,ow,.inr n2,fun i d' z1 z2=>no ⟨i,true,d',z1,z2⟩⟩⟩
inductive Tg where
 | nm (i:Nat) | tp (ts:List Tg)
mutual
noncomputable def gTg:Tg→D→Ev→Out Ev
 | .nm i,d,E=>.ok (E.set i (.val d))
 | .tp ts,d,E=>match d with
  | .tup ds=>gTgs ts ds E
  | _=>.bad
noncomputable def gTgs:List Tg→List D→Ev→Out Ev
 | [],[],E=>.ok E
 | [],_::_,_=>.bad
 | _::_,[],_=>.bad
 | t::ts,d::ds,E=>(gTg t d E).bind fun E1=>gTgs ts ds E1
end
mutual
noncomputable def Tg.ltn (n:Nat):Tg→Bool
 | .nm i=>decide (i<n)
 | .tp ts=>Tg.ltns n ts
noncomputable def Tg.ltns (n:Nat):List Tg→Bool
 | []=>true
 | t::ts=>t.ltn n && Tg.ltns n ts
end
theorem Sim.put {σ:St} {E:Ev} {i:Nat} {v:V} {d:D} (S:Sim K H₀ τ F H σ E) (r:Rep K F v d):Sim K H₀ τ F H (σ.set i (some v)) (E.set i (.val d))∧∀ a,owA (σ.set i (some v)) (E.set i (.val d)) a→owA σ E a:=by
 have old:∀ (j:Nat) t d',(E.set i (.val d))[j]?=some (.own t d')→i≠j∧E[j]?=some (.own t d'):=fun j t d' q=>by
  by_cases hj:i=j
  ·subst hj
   by_cases hi:i<E.length
   ·rw [List.getElem?_set_self hi] at q; cases q
   ·rw [List.getElem?_eq_none (by rw [List.length_set]; omega)] at q; cases q
  ·rw [List.getElem?_set_ne hj] at q; exact ⟨hj,q⟩
 refine ⟨⟨S.sub,by rw [List.length_set,List.length_set]; exact S.len,fun j d' q=>?_,fun j t d' q=>?_,fun j k t1 t2 d1 d2 b q1 q2 z1 z2=>?_⟩,fun a ⟨j,t,d',q1,q2⟩=>?_⟩
 ·by_cases hj:i=j
  ·subst hj
   have hi:i<E.length:=by
    have:=(List.getElem?_eq_some_iff.mp q).1
    rw [List.length_set] at this; exact this
   rw [List.getElem?_set_self hi] at q; cases q
   exact ⟨v,by rw [List.getElem?_set_self (by rw [← S.len]; exact hi)],r⟩
  ·rw [List.getElem?_set_ne hj] at q ⊢; exact S.val j d' q
 ·obtain ⟨hj,q⟩:=old j t d' q
  rw [List.getElem?_set_ne hj]; exact S.own j t d' q
 ·obtain ⟨hj,q1⟩:=old j _ _ q1
  obtain ⟨hk,q2⟩:=old k _ _ q2
  rw [List.getElem?_set_ne hj] at z1
  rw [List.getElem?_set_ne hk] at z2
  exact S.inj j k t1 t2 d1 d2 b q1 q2 z1 z2
 ·obtain ⟨hj,q1⟩:=old j t d' q1
  rw [List.getElem?_set_ne hj] at q2
  exact ⟨j,t,d',q1,q2⟩
theorem Sim.putO {σ:St} {E:Ev} {i:Nat} {a:Addr} {d:D} (S:Sim K H₀ τ F H σ E) (h2:F a=none) (h3:OwnAt K F H a d) (h4:∀ o u,H₀ a≠some (.frz o u)) (no:¬ owA σ E a) :
  Sim K H₀ τ F H (σ.set i (some (.ref a))) (E.set i (.own false d))∧∀ b,owA (σ.set i (some (.ref a))) (E.set i (.own false d)) b→owA σ E b∨b=a:=by
 have old:∀ (j:Nat) t d',(E.set i (.own false d))[j]?=some (.own t d')→(i=j∧t=false∧d'=d∧(σ.set i (some (V.ref a)))[j]?=some (some (.ref a)))∨(i≠j∧E[j]?=some (.own t d')∧(σ.set i (some (V.ref a)))[j]?=σ[j]?):=fun j t d' q=>by
  by_cases hj:i=j
  ·subst hj
   have hi:i<E.length:=by
    have:=(List.getElem?_eq_some_iff.mp q).1
    rw [List.length_set] at this; exact this
   rw [List.getElem?_set_self hi] at q; cases q
   exact .inl ⟨rfl,rfl,rfl,by rw [List.getElem?_set_self (by rw [← S.len]; exact hi)]⟩
  ·rw [List.getElem?_set_ne hj] at q; exact .inr ⟨hj,q,by rw [List.getElem?_set_ne hj]⟩
 refine ⟨⟨S.sub,by rw [List.length_set,List.length_set]; exact S.len,fun j d' q=>?_,fun j t d' q=>?_,fun j k t1 t2 d1 d2 b q1 q2 z1 z2=>?_⟩,fun b ⟨j,t,d',q1,q2⟩=>?_⟩
 ·by_cases hj:i=j
  ·subst hj
   have hi:i<E.length:=by
    have:=(List.getElem?_eq_some_iff.mp q).1
    rw [List.length_set] at this; exact this
   rw [List.getElem?_set_self hi] at q; cases q
  ·rw [List.getElem?_set_ne hj] at q ⊢; exact S.val j d' q
 ·rcases old j t d' q with ⟨rfl,rfl,rfl,z⟩ | ⟨hj,q,z⟩
  ·exact ⟨a,z,h2,h3,h4,nofun⟩
  ·rw [z]; exact S.own j t d' q
 ·rcases old j t1 d1 q1 with ⟨e1,_,_,y1⟩ | ⟨hj,p1,y1⟩ <;> rcases old k t2 d2 q2 with ⟨e2,_,_,y2⟩ | ⟨hk,p2,y2⟩
  ·rw [← e1,← e2]
  ·rw [y1] at z1; cases z1
   rw [y2] at z2
   exact absurd ⟨k,t2,d2,p2,z2⟩ no
  ·rw [y2] at z2; cases z2
   rw [y1] at z1
   exact absurd ⟨j,t1,d1,p1,z1⟩ no
  ·rw [y1] at z1; rw [y2] at z2
   exact S.inj j k t1 t2 d1 d2 b p1 p2 z1 z2
 ·rcases old j t d' q1 with ⟨rfl,rfl,rfl,y1⟩ | ⟨hj,q1,y1⟩
  ·rw [y1] at q2; cases q2; exact .inr rfl
  ·rw [y1] at q2; exact .inl ⟨j,t,d',q1,q2⟩
noncomputable def tG (K:PySem.W.Frag) (H₀:Hp) (t:Tg):TG:=fun v σ H Q=>∃ τ F E d E',Sim K H₀ τ F H σ E∧Rep K F v d∧gTg t d E=.ok E'∧∀ σ',Sim K H₀ τ F H σ' E'→(∀ a,owA σ' E' a→owA σ E a)→(∀ n,t.ltn n=true→∀ j:Nat,n≤j→σ'[j]?=σ[j]?)→Q σ' H
noncomputable def tGs (K:PySem.W.Frag) (H₀:Hp) (ts:List Tg):TGs:=fun vs σ H Q=>∃ τ F E ds E',Sim K H₀ τ F H σ E∧Reps K F vs ds∧gTgs ts ds E=.ok E'∧∀ σ',Sim K H₀ τ F H σ' E'→(∀ a,owA σ' E' a→owA σ E a)→(∀ n,Tg.ltns n ts=true→∀ j:Nat,n≤j→σ'[j]?=σ[j]?)→Q σ' H
theorem PG.imp {tg:Expr} {t t':TG} (h:PG X tg t) (hi:∀ v σ H Q,t' v σ H Q→t v σ H Q):PG X tg t':=fun pins s σ H x u Q I r q=>h pins s σ H x u Q I r (hi _ _ _ _ q)
theorem PGs.imp {tg:List Expr} {t t':TGs} (h:PGs X tg t) (hi:∀ v σ H Q,t' v σ H Q→t v σ H Q):PGs X tg t':=fun pins s σ H x u Q I r q=>h pins s σ H x u Q I r (hi _ _ _ _ q)
noncomputable abbrev VG (X:Cx) (tg:Expr) (t:Tg):Prop:=PG X tg (tG X.K X.H₀ t)
noncomputable abbrev VGs (X:Cx) (tg:List Expr) (t:List Tg):Prop:=PGs X tg (tGs X.K X.H₀ t)
theorem zAN {i:Nat} {x:Str} (hN:X.N.Nodup) (hi:X.N[i]?=some x) (hx:Loc X.env.scope x) (hf:X.fn x=true∨X.env.scope.names.lookup x=some .local:=by first | exact .inl rfl | exact .inr rfl | assumption):VG X (.Name x pos) (.nm i):=(zDG hN hi hx hf).imp fun v σ H Q h=>by
 obtain ⟨τ,F,E,d,E',S,r,hg,k⟩:=h
 rw [gTg] at hg
 cases hg
 obtain ⟨S1,h1⟩:=S.put (i:=i) r
 refine k _ S1 h1 fun n hn j hj=>?_
 rw [Tg.ltn] at hn
 have:i<n:=of_decide_eq_true hn
 rw [List.getElem?_set_ne (by omega)]
theorem Rep.sqT {a:Addr} {ds:List D} (s:Sub F H) (r:Rep K F (.ref a) (.tup ds)):∃ vs,SqT K H a vs∧Reps K F vs ds:=by
 cases r with
 | tup h r=>exact ⟨_,.inl (.inl (s _ _ h)),r⟩
 | @tupK _ xs h n =>
  rcases h with h | h
  ·rcases h with h | ⟨o,h⟩ <;> cases h
  ·refine ⟨_,.inr h,?_⟩
   induction xs with
   | nil=>exact .nil
   | cons x xs ih=>exact .cons (.str x) (by
     clear ih n h
     induction xs with
     | nil=>exact .nil
     | cons y ys ih=>exact .cons (.str y) ih)
theorem Rep.isRefT {v:V} {ds:List D} (r:Rep K F v (.tup ds)):∃ a,v=.ref a:=by cases r <;> exact ⟨_,rfl⟩
theorem Rep.isRefL {v:V} {ds:List D} (r:Rep K F v (.lst ds)):∃ a vs,v=.ref a∧SqL K F a vs∧Reps K F vs ds:=by cases r with | lst h r=>exact ⟨_,_,rfl,h,r⟩
theorem zI8:∀ {ts:List Tg} {ds:List D} {E E':Ev},gTgs ts ds E=.ok E'→ts.length=ds.length
 | [],[],_,_,_=>rfl
 | [],_::_,_,_,h=>by rw [gTgs] at h; cases h
 | _::_,[],_,_,h=>by rw [gTgs] at h; cases h
 | t::ts,d::ds,E,E',h=>by
  rw [gTgs] at h
  obtain ⟨E1,_,h⟩:=Out.bind_ok h
  rw [List.length_cons,List.length_cons,zI8 h]
theorem zCF:VGs X [] []:=pgs_nil.imp fun v σ H Q h=>by
 obtain ⟨τ,F,E,d,E',S,r,hg,k⟩:=h
 cases r with
 | nil=>rw [gTgs] at hg; cases hg; exact ⟨rfl,k σ S (fun _ h=>h) fun _ _ _ _=>rfl⟩
 | cons _ _=>rw [gTgs] at hg; cases hg
theorem zAR {es:List Expr} {t:Tg} {ts:List Tg} (h1:VG X e t) (h2:VGs X es ts)
  (hs:(assignEach (e::es) X.env).map (·.2)=assign e X.env::(assignEach es X.env).map (·.2):=by rfl):VGs X (e::es) (t::ts):=(zC6 h1 h2 hs).imp fun v σ H Q h=>by
 obtain ⟨τ,F,E,ds,E',S,r,hg,k⟩:=h
 cases r with
 | nil=>rw [gTgs] at hg; cases hg
 | @cons v d vs ds r rs =>
  rw [gTgs] at hg
  obtain ⟨E1,e1,hg⟩:=Out.bind_ok hg
  exact ⟨v,vs,rfl,τ,F,E,d,E1,S,r,e1,fun σ1 S1 h1 b1=>⟨τ,F,E1,ds,E',S1,rs,hg,fun σ2 S2 h2 b2=>k σ2 S2 (fun a z=>h1 a (h2 a z)) fun n hn j hj=>by
   rw [Tg.ltns,Bool.and_eq_true] at hn
   rw [b2 n hn.2 j hj,b1 n hn.1 j hj]⟩⟩
theorem zDB {es : List Expr} {k : Nat} {ts : List Tg} (hc : X.calm = true) (h : VGs X es ts)
    (hn : (assignEach es X.env).length = ts.length := by rfl) (hst : (assignEach es X.env).findIdx? (·.1) = none := by rfl) : VG X (.Tuple es k pos) (.tp ts) := (zKR hc h hn hst).imp fun v σ H Q h => by
  obtain ⟨τ, F, E, d, E', S, r, hg, k⟩ := h
  cases d with
  | tup ds =>
    obtain ⟨a, rfl⟩ := r.isRefT
    obtain ⟨vs, h1, h2⟩ := r.sqT S.sub
    rw [gTg] at hg
    exact ⟨a, vs, rfl, h1, by rw [h2.length, ← zI8 hg], τ, F, E, ds, E', S, h2, hg, fun σ' S' h' b' => k σ' S' h' fun n hn => b' n (by rw [Tg.ltn] at hn; exact hn)⟩
  | _ => have hg : (Out.bad : Out Ev) = .ok E' := hg
         cases hg
noncomputable def gAsg (t:Tg) (g:G):GS:=fun E=>(g E).bind fun p=>(gTg t p.1 p.2).bind fun E1=>.ok (.nx E1)
theorem zSQ {t:Tg} {σ:St} (h:tS K H₀ (gAsg t ge) D' σ H):tAsg (tV K H₀ ge) (tG K H₀ t) D' σ H:=by
 obtain ⟨τ,F,E,r,S,hg,k⟩:=h
 obtain ⟨p,e1,hg⟩:=Out.bind_ok hg
 obtain ⟨E1,e2,hg⟩:=Out.bind_ok hg
 cases hg
 exact ⟨τ,F,E,p.1,p.2,S,e1,fun v F1 H1 s1 S1 r1=>⟨τ,F1,p.2,p.1,E1,S1,r1,e2,fun σ2 S2 h2 _=>k σ2 F1 H1 (s1.weak h2) S2⟩⟩
theorem zLW {tg:Expr} {t:Tg} (he:VE X e ge) (hg:VG X tg t) (hs:swapsWithSole [tg] e pos.line X.env=pure false:=by rfl) (hw:swappedStores [tg] e X.env=pure none:=by rfl)
  (h1:(assignEach [tg] X.env).map (·.2)=[assign tg X.env]:=by rfl):VS X (.Assign [tg] e pos) (gAsg t ge):=(zKS he hg hs hw h1).imp fun _ _ _ h=>zSQ h
theorem zBF {i:Nat} {x:Str} {pos':Pos} (hN:X.N.Nodup) (hi:X.N[i]?=some x) (hx:Loc X.env.scope x) (he:VE X e ge) (hs:swapsWith e (some (.Name x pos')) pos.line X.env=pure false:=by rfl) (hf:X.fn x=true∨X.env.scope.names.lookup x=some .local:=by first | exact .inl rfl | exact .inr rfl | assumption) :
  VS X (.Assign [.Name x pos'] e pos) (gAsg (.nm i) ge):=(zON hN hi hx he hs hf).imp fun D' σ H h=>by
 obtain ⟨τ,F,E,r,S,hg,k⟩:=h
 obtain ⟨p,e1,hg⟩:=Out.bind_ok hg
 obtain ⟨E1,e2,hg⟩:=Out.bind_ok hg
 cases hg
 rw [gTg] at e2
 cases e2
 refine ⟨τ,F,E,p.1,p.2,S,e1,fun v F1 H1 s1 S1 r1=>?_⟩
 obtain ⟨S2,h2⟩:=S1.put (i:=i) r1
 exact k _ F1 H1 (s1.weak h2) S2
noncomputable def gSetF (i:Nat) (g:G):GS:=fun E=>(g E).bind fun p=>.ok (.nx (p.2.set i (.own false p.1)))
theorem zNP {pins:List (Addr × Obj)} {s:Shared} {σ:St} (I:Inv X pins σ H s) {a:Addr} (h:H a=none):∀ o u,X.H₀ a≠some (.frz o u):=fun o u e=>by
 rw [I.base.frzs a o u e] at h; cases h
theorem zSR {i:Nat} {pins:List (Addr × Obj)} {s:Shared} {σ:St} (I:Inv X pins σ H s) (h:tS X.K X.H₀ (gSetF i ge) D' σ H):tAsg (tF X.K X.H₀ ge) (gName i) D' σ H:=by
 obtain ⟨τ,F,E,r,S,hg,k⟩:=h
 obtain ⟨p,e1,hg⟩:=Out.bind_ok hg
 cases hg
 refine ⟨τ,F,E,p.1,p.2,S,e1,fun a F1 H1 s1 S1 n1 n0 ow no=>?_⟩
 obtain ⟨S2,h2⟩:=S1.putO (i:=i) n1 ow (zNP I n0) no
 refine k _ F1 H1 ⟨s1.keep,s1.dom,s1.le,s1.new,fun b z=>?_⟩ S2
 rcases h2 b z with z | rfl
 ·exact s1.own b z
 ·exact .inr n0
theorem zCG {i:Nat} {x:Str} {pos':Pos} (hN:X.N.Nodup) (hi:X.N[i]?=some x) (hx:Loc X.env.scope x) (he:FE X e ge) (hs:swapsWith e (some (.Name x pos')) pos.line X.env=pure false:=by rfl) (hf:X.fn x=true∨X.env.scope.names.lookup x=some .local:=by first | exact .inl rfl | exact .inr rfl | assumption) :
  VS X (.Assign [.Name x pos'] e pos) (gSetF i ge):=fun pins s σ H D' I h=>zON hN hi hx he hs hf pins s σ H D' I (zSR I h)
noncomputable def gDrop (g:G):GS:=fun E=>(g E).bind fun p=>.ok (.nx p.2)
theorem zIH (he:VE X e ge) (hs:swapsWith e none pos.line X.env=pure false:=by rfl):VS X (.Expr e pos) (gDrop ge):=(zKP he hs).imp fun D' σ H h=>by
 obtain ⟨τ,F,E,r,S,hg,k⟩:=h
 obtain ⟨p,e1,hg⟩:=Out.bind_ok hg
 cases hg
 exact ⟨τ,F,E,p.1,p.2,S,e1,fun v F1 H1 s1 S1 r1=>k σ F1 H1 s1 S1⟩
noncomputable def gWh (t:Ev→Out (Bool × Ev)) (g:GS):Nat→GS
 | 0,_=>.bad
 | n+1,E=>(t E).bind fun p=>if p.1=true then (g p.2).bind fun r=>match r with
   | .nx E1=>gWh t g n E1
   | .ct E1=>gWh t g n E1
   | .bk E1=>.ok (.nx E1)
   | .rt b d E1=>.ok (.rt b d E1)
  else .ok (.nx p.2)
theorem zF7 {c:Expr} {body:List Stmt} {t:Ev→Out (Bool × Ev)} (n:Nat) (hp:PassesOwn (model X.prog X.w) X.A X.env X.xe) (hc:VT X c t) (hb:VSs X body g):VS X (.While c body [] pos) (gWh t g n):=(zMY hp hc hb).imp fun D' σ H h=>by
 obtain ⟨τ,F,E,r,S,hg,k⟩:=h
 refine ⟨fun m σ1 H1=>∃ F1 E1,Sim X.K X.H₀ τ F1 H1 σ1 E1∧Stp (owA σ E) F H F1 H1 (owA σ1 E1)∧gWh t g m E1=.ok r,⟨n,F,E,S,.refl,hg⟩,?_⟩
 rintro m σ1 H1 ⟨F1,E1,S1,s1,h1⟩
 cases m with
 | zero=>rw [gWh] at h1; cases h1
 | succ m =>
  rw [gWh] at h1
  obtain ⟨p,e1,h1⟩:=Out.bind_ok h1
  refine ⟨τ,F1,E1,p.1,p.2,S1,e1,fun F2 H2 s2 S2=>?_⟩
  have s12:=s1.trans s2
  dsimp only
  by_cases hp:p.1=true
  ·rw [if_pos hp] at h1 ⊢
   obtain ⟨q,e2,h1⟩:=Out.bind_ok h1
   refine ⟨fun σ3 H3=>∃ F3 E3,Sim X.K X.H₀ τ F3 H3 σ3 E3∧Stp (owA σ E) F H F3 H3 (owA σ3 E3)∧gWh t g m E3=.ok r,fun σ3 H3 ⟨F3,E3,a1,a2,a3⟩=>⟨m,Nat.lt_succ_self m,F3,E3,a1,a2,a3⟩,τ,F2,p.2,q,S2,e2,?_⟩
   cases q with
   | nx E3=>exact fun σ3 F3 H3 s3 S3=>⟨F3,E3,S3,s12.trans s3,h1⟩
   | ct E3=>exact fun σ3 F3 H3 s3 S3=>⟨F3,E3,S3,s12.trans s3,h1⟩
   | bk E3=>cases h1; exact fun σ3 F3 H3 s3 S3=>k σ3 F3 H3 (s12.trans s3) S3
   | rt b d E3=>cases h1; exact fun σ3 v F3 H3 s3 S3 q=>k σ3 v F3 H3 (s12.trans s3) S3 (q.pre s12)
  ·rw [if_neg hp] at h1 ⊢
   cases h1
   exact k σ1 F2 H2 s12 S2
end
end L2
namespace L2
open PySem PySem.Spec PyProof.Rows
noncomputable def Walks (K:PySem.W.Frag) (J:It) (F:Hp) (ds:List D):Prop:=∀ (i:Nat) F1 H1,Le F F1→Sub F1 H1→(i<ds.length→J.go i H1)∧(i=ds.length→J.stop i H1)∧∀ x H' d,ds[i]?=some d→J.yld i H1 x H'→∃ F',New F1 H1 F' H'∧Rep K F' x d
noncomputable abbrev GI:=Ev→Out (List D × Ev)
noncomputable def tI (K:PySem.W.Frag) (H₀:Hp) (g:GI):TI:=fun σ H R=>∃ τ F E ds E',Sim K H₀ τ F H σ E∧g E=.ok (ds,E') ∧
 ∀ J F' H',Stp (owA σ E) F H F' H' (owA σ E')→Sim K H₀ τ F' H' σ E'→Walks K J F' ds→R J H'
theorem PI.imp {X:Cx} {tg e:Expr} {t t':TI} (h:PI X tg e t) (hi:∀ σ H Q,t' σ H Q→t σ H Q):PI X tg e t':=fun pins s σ H Q I q=>h pins s σ H Q I (hi σ H Q q)
noncomputable abbrev VI (X:Cx) (tg e:Expr) (g:GI):Prop:=PI X tg e (tI X.K X.H₀ g)
section
variable {X:Cx} {K:PySem.W.Frag} {H₀ F H F1 H1:Hp} {τ:Addr} {ow ow1:Addr→Prop} {D':Ends} {st:Stmt} {rest:List Stmt} {g g':GS} {pos:Pos} {e tg:Expr} {ge:G} {gi:GI}
noncomputable def gSq (g:G):GI:=fun E=>(g E).bind fun p=>match p.1 with | .lst ds=>.ok (ds,p.2) | _=>.bad
noncomputable def gTp (g:G):GI:=fun E=>(g E).bind fun p=>match p.1 with | .tup ds=>.ok (ds,p.2) | _=>.bad
theorem zJ9 {a:Addr} {vs:List V} {ds:List D} (h:SqL K F a vs) (r:Reps K F vs ds):Walks K (Itl K a) F ds:=fun i F1 H1 l s=>by
 have sq:SqL K H1 a vs:=h.imp (fun h=>s.rd (l.rd h)) id
 refine ⟨fun hi=>?_,fun hi=>⟨vs,sq,by rw [r.length,hi]; exact Nat.le_refl _⟩,fun x H' d e ⟨e1,y⟩=>?_⟩
 ·have hv:i<vs.length:=by rw [r.length]; exact hi
  exact ⟨vs,vs[i],sq,by simp [hv]⟩
 ·subst e1
  obtain ⟨v,h1,h2⟩:=r.get e
  rw [y vs sq] at h1; cases h1
  exact ⟨F1,.refl s,h2.le l⟩
theorem Rep.tupSq {v:V} {ds:List D} (r:Rep K F v (.tup ds)):∃ a vs,v=.ref a∧Reps K F vs ds∧∀ F1 H1,Le F F1→Sub F1 H1→SqT K H1 a vs:=by
 cases r with
 | tup h r=>exact ⟨_,_,rfl,r,fun F1 H1 l s=>.inl (.inl (s _ _ (l.tup h)))⟩
 | @tupK a xs h n =>
  obtain ⟨vs,h1,h2⟩:=Rep.sqT (F:=F) (H:=F) (fun _ _ e=>e) (.tupK h n)
  refine ⟨a,vs,rfl,h2,fun F1 H1 _ _=>?_⟩
  rcases h with h | h
  ·rcases h with h | ⟨o,h⟩ <;> cases h
  ·have:vs=xs.map V.str:=Reps.vstr h2
   subst this
   exact .inr h
theorem zLX {a:Addr} {vs:List V} {ds:List D} (sq:∀ F1 H1,Le F F1→Sub F1 H1→SqT K H1 a vs) (r:Reps K F vs ds):Walks K (Itt K a) F ds:=fun i F1 H1 l s=>by
 have sq:=sq F1 H1 l s
 refine ⟨fun hi=>?_,fun hi=>⟨vs,sq,by rw [r.length,hi]; exact Nat.le_refl _⟩,fun x H' d e ⟨e1,y⟩=>?_⟩
 ·have hv:i<vs.length:=by rw [r.length]; exact hi
  exact ⟨vs,vs[i],sq,by simp [hv]⟩
 ·subst e1
  obtain ⟨v,h1,h2⟩:=r.get e
  rw [y vs sq] at h1; cases h1
  exact ⟨F1,.refl s,h2.le l⟩
theorem zQB (h:VE X e ge):VI X tg e (gSq ge):=(zPL h).imp fun σ H Q h=>by
 obtain ⟨τ,F,E,ds,E',S,hg,k⟩:=h
 obtain ⟨p,e1,hg⟩:=Out.bind_ok hg
 refine ⟨τ,F,E,p.1,p.2,S,e1,fun v F1 H1 s1 S1 r1=>?_⟩
 split at hg
 ·rename_i ds' ed
  cases hg
  rw [ed] at r1
  obtain ⟨a,vs,rfl,h1,h2⟩:=r1.isRefL
  exact ⟨a,rfl,⟨vs,h1.imp S1.sub.rd id⟩,k _ F1 H1 s1 S1 (zJ9 h1 h2)⟩
 ·cases hg
theorem zSS (h:VE X e ge):VI X tg e (gTp ge):=(zOO h).imp fun σ H Q h=>by
 obtain ⟨τ,F,E,ds,E',S,hg,k⟩:=h
 obtain ⟨p,e1,hg⟩:=Out.bind_ok hg
 refine ⟨τ,F,E,p.1,p.2,S,e1,fun v F1 H1 s1 S1 r1=>?_⟩
 split at hg
 ·rename_i ds' ed
  cases hg
  rw [ed] at r1
  obtain ⟨a,vs,rfl,h1,h2⟩:=r1.tupSq
  exact ⟨a,rfl,⟨vs,h2 F1 H1 (.refl _) S1.sub⟩,k _ F1 H1 s1 S1 (zLX h2 h1)⟩
 ·cases hg
noncomputable def gArgs:List G→Ev→Out (List D × Ev)
 | [],E=>.ok ([],E)
 | g::gs,E=>(g E).bind fun p=>(gArgs gs p.2).bind fun q=>.ok (p.1::q.1,q.2)
noncomputable def tAr (K:PySem.W.Frag) (H₀:Hp) (gs:List G):TA:=fun σ H Q=>∃ τ F E ds E',Sim K H₀ τ F H σ E∧gArgs gs E=.ok (ds,E') ∧
 ∀ vs F' H',Stp (owA σ E) F H F' H' (owA σ E')→Sim K H₀ τ F' H' σ E'→Reps K F' vs ds→Q vs H'
theorem PA.imp {es:List Expr} {t t':TA} (h:PA X es t) (hi:∀ σ H Q,t' σ H Q→t σ H Q):PA X es t':=fun p pins s σ H Q I q=>h p pins s σ H Q I (hi σ H Q q)
noncomputable abbrev VA (X:Cx) (es:List Expr) (gs:List G):Prop:=PA X es (tAr X.K X.H₀ gs)
theorem zAE:VA X [] []:=pa_nil.imp fun σ H Q h=>by
 obtain ⟨τ,F,E,ds,E',S,hg,k⟩:=h
 cases hg
 exact k [] F H .refl S .nil
theorem zQC {gs:List G} {σ:St} {Q:List V→Hp→Prop} (h:tAr K H₀ (ge::gs) σ H Q):tCons (tV K H₀ ge) (tAr K H₀ gs) σ H Q:=by
 obtain ⟨τ,F,E,ds,E',S,hg,k⟩:=h
 rw [gArgs] at hg
 obtain ⟨p,e1,hg⟩:=Out.bind_ok hg
 obtain ⟨q,e2,hg⟩:=Out.bind_ok hg
 cases hg
 exact ⟨τ,F,E,p.1,p.2,S,e1,fun v F1 H1 s1 S1 r1=>⟨τ,F1,p.2,q.1,q.2,S1,e2,fun vs F2 H2 s2 S2 r2=>k (v::vs) F2 H2 (s1.trans s2) S2 (.cons (r1.le s2.le) r2)⟩⟩
theorem zAA {es:List Expr} {gs:List G} (ha:VE X e ge) (hr:VA X es gs) (hs:starEach (e::es) X.env=(false,eval e X.env)::starEach es X.env:=by rfl):VA X (e::es) (ge::gs):=(zA9 ha hr hs).imp fun _ _ _ h=>zQC h
theorem zEG {n:Nat} (h:n<10000):n<sizeLine:=Nat.lt_of_lt_of_le h (by decide)
noncomputable def few (n:Nat) {α:Type} (x:Out α):Out α:=if n<10000 then x else .bad
theorem zB8 {n:Nat} {α:Type} {x:Out α} {a:α} (h:few n x=.ok a):n<10000∧x=.ok a:=by
 unfold few at h
 split at h
 ·exact ⟨by assumption,h⟩
 ·cases h
noncomputable def gTup' (gs:List G):G:=fun E=>(gArgs gs E).bind fun p=>few p.1.length (.ok (.tup p.1,p.2))
noncomputable def gLst (gs:List G):G:=fun E=>(gArgs gs E).bind fun p=>few p.1.length (.ok (.lst p.1,p.2))
theorem v_tup {es:List Expr} {gs:List G} {x1} (h:VA X es gs):VE X (.Tuple es x1 pos) (gTup' gs):=(zR7 h).imp fun σ H Q h=>by
 obtain ⟨τ,F,E,ds,E',S,hg,k⟩:=h
 obtain ⟨p,e1,hg⟩:=Out.bind_ok hg
 obtain ⟨hl,hg⟩:=zB8 hg
 cases hg
 refine ⟨τ,F,E,p.1,p.2,S,e1,fun vs F1 H1 s1 S1 r1=>⟨by rw [r1.length]; exact Nat.le_of_lt (zEG hl),fun q hq=>?_⟩⟩
 have n:=New.laid (o:=.tup vs) S1.sub hq
 exact k _ _ _ (s1.trans n.stp) (S1.new n) (.tup zAC (r1.le n.1.le))
theorem f_lst {es:List Expr} {gs:List G} (h:VA X es gs):FE X (.List es pos) (gLst gs):=(zKZ h).imp fun σ H Q h=>by
 obtain ⟨τ,F,E,ds,E',S,hg,k⟩:=h
 obtain ⟨p,e1,hg⟩:=Out.bind_ok hg
 obtain ⟨hl,hg⟩:=zB8 hg
 cases hg
 refine ⟨τ,F,E,p.1,p.2,S,e1,fun vs F1 H1 s1 S1 r1=>⟨by rw [r1.length]; exact Nat.le_of_lt (zEG hl),fun q hq=>?_⟩⟩
 have n:=New.junk (H':=upd H1 q (.lst vs)) S1.sub (Gr.new hq)
 have fq:F1 q=none:=by
  cases z:F1 q with
  | none=>rfl
  | some o=>rw [S1.sub q o z] at hq; cases hq
 exact k q _ _ (s1.trans n.stp) (S1.new n) fq (s1.dom q hq) ⟨vs,zAC,r1⟩ (S1.fresh hq)
noncomputable def gLoop (t:Tg) (g:GS):List D→GS
 | [],E=>.ok (.nx E)
 | d::ds,E=>(gTg t d E).bind fun E1=>(g E1).bind fun r=>match r with
  | .nx E2=>gLoop t g ds E2
  | .ct E2=>gLoop t g ds E2
  | .bk E2=>.ok (.nx E2)
  | .rt b d E2=>.ok (.rt b d E2)
noncomputable def gFor (gi:GI) (t:Tg) (g:GS):GS:=fun E=>(gi E).bind fun p=>gLoop t g p.1 p.2
theorem zDC {iter:Expr} {body:List Stmt} {t:Tg} (hp:PassesOwn (model X.prog X.w) X.A X.env X.xe) (hc:X.calm=true) (hi:VI X tg iter gi) (hg:VG X tg t) (hb:VSs X body g)
  (hs:∀ x,foldedSetIterable iter X.env x=pure x:=by intro _; rfl):VS X (.For tg iter body [] pos) (gFor gi t g):=(zOP hp hc hi hg hb hs).imp fun D' σ H h=>by
 obtain ⟨τ,F,E,r,S,hg,k⟩:=h
 obtain ⟨p,e1,hg⟩:=Out.bind_ok hg
 refine ⟨τ,F,E,p.1,p.2,S,e1,fun J F1 H1 s1 S1 w1=>?_⟩
 refine ⟨fun i m σ2 H2=>m=p.1.length - i∧i≤p.1.length∧∃ F2 E2,Sim X.K X.H₀ τ F2 H2 σ2 E2∧Stp (owA σ E) F H F2 H2 (owA σ2 E2)∧Le F1 F2∧gLoop t g (p.1.drop i) E2=.ok r,⟨_,rfl,Nat.zero_le _,F1,p.2,S1,s1,.refl _,by rw [List.drop_zero]; exact hg⟩,?_⟩
 rintro i m σ2 H2 ⟨rfl,hil,F2,E2,S2,s2,l2,h2⟩
 obtain ⟨w2,w3,w4⟩:=w1 i F2 H2 l2 S2.sub
 by_cases hi:i<p.1.length
 ·obtain ⟨d,hd⟩:∃ d,p.1[i]?=some d:=⟨p.1[i],by simp [hi]⟩
  have hdr:p.1.drop i=d::p.1.drop (i+1):=by
   rw [List.drop_eq_getElem_cons hi]
   have:p.1[i]=d:=by rw [List.getElem?_eq_getElem hi] at hd; exact Option.some.inj hd
   rw [this]
  rw [hdr,gLoop] at h2
  obtain ⟨E3,e3,h2⟩:=Out.bind_ok h2
  obtain ⟨q,e4,h2⟩:=Out.bind_ok h2
  refine .inr ⟨w2 hi,fun σ5 H5=>∃ F5 E5,Sim X.K X.H₀ τ F5 H5 σ5 E5∧Stp (owA σ E) F H F5 H5 (owA σ5 E5)∧Le F1 F5∧gLoop t g (p.1.drop (i+1)) E5=.ok r,fun σ5 H5 ⟨F5,E5,a1,a2,a3,a4⟩=>⟨_,by omega,rfl,hi,F5,E5,a1,a2,a3,a4⟩,fun x H' y=>?_⟩
  obtain ⟨F3,n3,r3⟩:=w4 x H' d hd y
  refine ⟨τ,F3,E2,d,E3,S2.new n3,r3,e3,fun σ4 S4 h4 _=>⟨τ,F3,E3,q,S4,e4,?_⟩⟩
  have s4:Stp (owA σ E) F H F3 H' (owA σ4 E3):=(s2.trans n3.stp).weak h4
  have l3:Le F1 F3:=l2.trans n3.1.le
  cases q with
  | nx E5=>exact fun σ5 F5 H5 s5 S5=>⟨F5,E5,S5,s4.trans s5,l3.trans s5.le,h2⟩
  | ct E5=>exact fun σ5 F5 H5 s5 S5=>⟨F5,E5,S5,s4.trans s5,l3.trans s5.le,h2⟩
  | bk E5=>cases h2; exact fun σ5 F5 H5 s5 S5=>k σ5 F5 H5 (s4.trans s5) S5
  | rt b d E5=>cases h2; exact fun σ5 v F5 H5 s5 S5 q=>k σ5 v F5 H5 (s4.trans s5) S5 (q.pre s4)
 ·have hi:i=p.1.length:=by omega
  rw [List.drop_eq_nil_of_le (by omega),gLoop] at h2
  cases h2
  exact .inl ⟨w3 hi,k σ2 F2 H2 s2 S2⟩
end
noncomputable abbrev Mr:=List Sl→Out (Bool × D × D)
noncomputable def put0 (sl:Ev) (d:D):Ev:=match sl with
 | .own t _::r=>.own t d::r
 | sl=>sl
noncomputable def fin (sl:Ev) (E':Ev) (b:Bool) (d:D):Out (Bool × D × D):=match sl with
 | .own _ _::_=>match E' with
  | .own true d'::_=>.ok (b,d,d')
  | _=>.bad
 | _=>.ok (b,d,.non)
noncomputable def mkFn (n:Nat) (gb:GS):Mr:=fun sl=>(gb (sl++List.replicate (n - sl.length) .no)).bind fun r=>match r with
 | .rt b d E'=>fin sl E' b d
 | .nx E'=>fin sl E' false .non
 | _=>.bad
noncomputable def Shp (sl:Ev):Prop:=∀ (i:Nat) t d,sl[i]?=some (.own t d)→i=0∧t=true
noncomputable def ResR (K:PySem.W.Frag) (H F' H':Hp) (ow:Addr→Prop):Bool→V→D→Prop
 | false,v,d=>Rep K F' v d
 | true,v,d=>∃ a,v=.ref a∧F' a=none∧OwnAt K F' H' a d∧H a=none∧¬ ow a
noncomputable def spV (K:PySem.W.Frag) (np:Nat) (m:Mr):Sp:=fun vs H Q _=>vs.length=np∧∃ τ F sl b d d',Sim K H τ F H (vs.map some) sl∧Shp sl∧m sl=.ok (b,d,d') ∧
 ∀ v F' H',Stp (owA (vs.map some) sl) F H F' H' (owA (vs.map some) (put0 sl d'))→Sim K H τ F' H' (vs.map some) (put0 sl d')→ResR K H F' H' (owA (vs.map some) (put0 sl d')) b v d→Q v H'
theorem zST {sl E':Ev} {b b':Bool} {d d0 d':D} (h:fin sl E' b d=.ok (b',d0,d')):b'=b∧d0=d∧∀ t x r,sl=.own t x::r→∃ r',E'=.own true d'::r':=by
 unfold fin at h
 split at h
 ·split at h
  ·cases h
   exact ⟨rfl,rfl,fun _ _ _ _=>⟨_,rfl⟩⟩
  ·cases h
 ·rename_i hn
  cases h
  refine ⟨rfl,rfl,fun t x r e=>?_⟩
  exact absurd e (by intro z; exact hn t x r z)
section
variable {P:Program} {w:World} {K:PySem.W.Frag} {mg:Str→Option Value} {base:Heap}
theorem fn_v {x qual:Str} {st:Stmt} {f:Addr} {fd:FuncData} {N ps:List Str} {k:Nat} {gb:GS} (Fn:Fun K x qual st f fd) (S:FnScope N ps (zAH st))
  (hbody:∀ (cdv:Value) (A:Around) (outer:List Env) (s:Shared) (H:Hp) (E:XK),Room k (A.deeper (envOfC qual (zAH st) s.heap.objs.size f cdv)) →
   VSs (cxOf CX0 P w K mg base N qual (zAH st) f cdv A outer s H E).nox (zAQ st) gb):FnOk P w K mg base CX0 (k+1) f fd ps (spV K ps.length (mkFn N.length gb)):=by
 refine Fn.ok S (fun vs H Q E h=>h.1) fun cdv A outer s H vs Q E hr h=>⟨_,hbody cdv A outer s H E hr,?_⟩
 obtain ⟨hl,τ,F,sl,b,d,d',Sm,sh,hm,k⟩:=h
 unfold mkFn at hm
 obtain ⟨r,e1,hm⟩:=Out.bind_ok hm
 have lsl:sl.length=vs.length:=by rw [Sm.len,List.length_map]
 have own0:∀ (i:Nat) t d,(sl++List.replicate (N.length - sl.length) Sl.no)[i]?=some (.own t d)→sl[i]?=some (.own t d):=fun i t d q=>by
  by_cases hi:i<sl.length
  ·rw [List.getElem?_append_left hi] at q; exact q
  ·rw [List.getElem?_append_right (by omega),List.getElem?_replicate] at q
   split at q <;> cases q
 have val0:∀ (i:Nat) d,(sl++List.replicate (N.length - sl.length) Sl.no)[i]?=some (.val d)→sl[i]?=some (.val d):=fun i d q=>by
  by_cases hi:i<sl.length
  ·rw [List.getElem?_append_left hi] at q; exact q
  ·rw [List.getElem?_append_right (by omega),List.getElem?_replicate] at q
   split at q <;> cases q
 have st0:∀ (i:Nat),i<sl.length→(start N vs)[i]?=(vs.map some)[i]?:=fun i hi=>by
  unfold start
  rw [List.getElem?_append_left (by rw [List.length_map]; omega)]
 have Sm0:Sim K H τ F H (start N vs) (sl++List.replicate (N.length - sl.length) .no):=by
  refine ⟨Sm.sub,?_,fun i d q=>?_,fun i t d q=>?_,fun i j t u d d2 a q1 q2 z1 z2=>?_⟩
  ·unfold start
   rw [List.length_append,List.length_append,List.length_replicate,List.length_replicate,List.length_map,lsl]
  ·have q:=val0 i d q
   rw [st0 i (List.getElem?_eq_some_iff.mp q).1]; exact Sm.val i d q
  ·have q:=own0 i t d q
   rw [st0 i (List.getElem?_eq_some_iff.mp q).1]; exact Sm.own i t d q
  ·have q1:=own0 i _ _ q1
   have q2:=own0 j _ _ q2
   rw [st0 i (List.getElem?_eq_some_iff.mp q1).1] at z1
   rw [st0 j (List.getElem?_eq_some_iff.mp q2).1] at z2
   exact Sm.inj i j t u d d2 a q1 q2 z1 z2
 have ow0:∀ a,owA (start N vs) (sl++List.replicate (N.length - sl.length) .no) a↔owA (vs.map some) sl a:=fun a=>by
  constructor
  ·rintro ⟨i,t,d,q1,q2⟩
   have q:=own0 i t d q1
   rw [st0 i (List.getElem?_eq_some_iff.mp q).1] at q2
   exact ⟨i,t,d,q,q2⟩
  ·rintro ⟨i,t,d,q1,q2⟩
   have hi:=(List.getElem?_eq_some_iff.mp q1).1
   exact ⟨i,t,d,by rw [List.getElem?_append_left hi]; exact q1,by rw [st0 i hi]; exact q2⟩
 -- the end,from what the body ends with
 have theEnd:∀ {E':Ev} {b0:Bool} {d0:D},fin sl E' b0 d0=.ok (b,d,d')→∀ σ' v F' H',Stp (owA (start N vs) (sl++List.replicate (N.length - sl.length) .no)) F H F' H' (owA σ' E')→Sim K H τ F' H' σ' E' →
   RetR K (owA (start N vs) (sl++List.replicate (N.length - sl.length) .no)) H F' H' σ' E' b0 v d0→Q v H':=by
  intro E' b0 d0 hf σ' v F' H' s1 S1 rr
  obtain ⟨rfl,rfl,h3⟩:=zST hf
  have p0:∀ (i:Nat) t x,(put0 sl d')[i]?=some (.own t x)→i=0∧t=true∧x=d'∧∃ x0 r,sl=.own true x0::r:=fun i t x q=>by
   cases sl with
   | nil=>simp [put0] at q
   | cons y r =>
    have other:(∀ t0 x0,y≠.own t0 x0)→(y::r)[i]?=some (.own t x)→False:=fun hn q=>by
     obtain ⟨h0,ht⟩:=sh i t x q
     subst h0
     simp at q
     exact hn _ _ q
    cases y with
    | no=>exact (other (fun _ _ z=>Sl.noConfusion z) q).elim
    | val _=>exact (other (fun _ _ z=>Sl.noConfusion z) q).elim
    | own t0 x0 =>
     cases i with
     | zero =>
      obtain ⟨_,ht⟩:=sh 0 t0 x0 rfl
      subst ht
      have q:some (Sl.own true d')=some (.own t x):=q
      cases q
      exact ⟨rfl,rfl,rfl,x0,r,rfl⟩
     | succ i =>
      have:=(sh (i+1) t x q).1
      omega
  have pv:∀ (i:Nat) x,(put0 sl d')[i]?=some (.val x)→sl[i]?=some (.val x):=fun i x q=>by
   unfold put0 at q
   split at q
   ·cases i with
    | zero=>simp at q
    | succ i=>simpa using q
   ·exact q
  have own1:∀ x0 r,sl=.own true x0::r→∃ a,(vs.map some)[0]?=some (some (.ref a))∧τ=a∧σ'[0]?=some (some (.ref a))∧F' a=none∧OwnAt K F' H' a d'∧(∀ o u,H a≠some (.frz o u))∧E'[0]?=some (.own true d'):=fun x0 r e=>by
   obtain ⟨r',e'⟩:=h3 true x0 r e
   have q0:E'[0]?=some (.own true d'):=by rw [e']; rfl
   obtain ⟨a,a1,a2,a3,a4,a5⟩:=S1.own 0 true d' q0
   obtain ⟨c,c1,c2,c3,c4,c5⟩:=Sm.own 0 true x0 (by rw [e]; rfl)
   have:a=c:=by rw [← a5 rfl,← c5 rfl]
   subst this
   exact ⟨a,c1,c5 rfl,a1,a2,a3,a4,q0⟩
  refine k v F' H' ⟨fun a o e hw n ho=>s1.keep a o e hw n fun z=>ho ((ow0 a).mp z),s1.dom,s1.le,fun a o e=>(s1.new a o e).imp_right fun z=>z.imp_right (ow0 a).mp,fun a ⟨i,t,x,q1,q2⟩=>?_⟩
   ⟨S1.sub,?_,fun i x q=>?_,fun i t x q=>?_,fun i j t u x y a q1 q2 _ _=>by rw [(p0 i t x q1).1,(p0 j u y q2).1]⟩ ?_
  ·obtain ⟨rfl,rfl,rfl,x0,r,e⟩:=p0 i t x q1
   exact .inl ⟨0,true,x0,by rw [e]; rfl,q2⟩
  ·have:(put0 sl d').length=sl.length:=by
    unfold put0
    split <;> rfl
   rw [this]; exact Sm.len
  ·obtain ⟨v,h1,h2⟩:=Sm.val i x (pv i x q)
   exact ⟨v,h1,h2.le s1.le⟩
  ·obtain ⟨rfl,rfl,rfl,x0,r,e⟩:=p0 i t x q
   obtain ⟨a,a1,a2,a3,a4,a5,a6,_⟩:=own1 x0 r e
   exact ⟨a,a1,a4,a5,a6,fun _=>a2⟩
  ·cases b with
   | false=>exact rr
   | true =>
    obtain ⟨a,r1,r2,r3,r4,r5⟩:=rr
    have no:¬ owA (vs.map some) sl a:=by
     rintro ⟨i,t,x,q1,q2⟩
     obtain ⟨rfl,rfl⟩:=sh i t x q1
     cases sl with
     | nil=>simp at q1
     | cons y r =>
      simp at q1
      subst q1
      obtain ⟨c,c1,c2,c3,c4,c5,c6,c7⟩:=own1 x r rfl
      rw [q2] at c1; cases c1
      exact r5 0 d' c7 c3
    refine ⟨a,r1,r2,r3,r4.elim (fun z=>absurd ((ow0 a).mp z) no) id,?_⟩
    rintro ⟨i,t,x,q1,q2⟩
    obtain ⟨rfl,rfl,rfl,x0,r,e⟩:=p0 i t x q1
    exact no ⟨0,true,x0,by rw [e]; rfl,q2⟩
 refine ⟨τ,F,_,r,Sm0,e1,?_⟩
 cases r with
 | rt b0 d0 E'=>exact theEnd hm
 | nx E'=>exact fun σ' F' H' s1 S1=>theEnd hm σ' .non F' H' s1 S1 .non
 | bk E'=>cases hm
 | ct E'=>cases hm
end
end L2
namespace L2
open PySem PySem.Spec PyProof.Rows
section
variable {X:Cx} {K:PySem.W.Frag} {H₀ F H F1 H1 F2 H2:Hp} {τ:Addr} {pos p:Pos} {e:Expr} {es:List Expr} {ge:G} {gs:List G} {x:Str} {k np:Nat} {m:Mr}
noncomputable def Cal (P:Program) (w:World) (K:PySem.W.Frag) (mg:Str→Option Value) (base:Heap) (x:Str) (k np:Nat) (m:Mr):Prop :=
 ∃ (f:Addr) (fd:FuncData) (ps:List Str),FnOk P w K mg base CX0 k f fd ps (spV K np m)∧mg x=some (.ref f)∧PySem.W.keepIn K (.ref f)=true∧Binds K fd ps []
theorem noOwn {σ:St} {ds:List D} (a:Addr):¬ owA σ (ds.map Sl.val) a:=fun ⟨i,t,d,e,_⟩=>by
 rw [List.getElem?_map] at e
 cases q:ds[i]? with
 | none=>rw [q] at e; cases e
 | some d'=>rw [q] at e; cases e
theorem Sim.args {vs:List V} {ds:List D} (s:Sub F H) (r:Reps K F vs ds):Sim K H₀ τ F H (vs.map some) (ds.map Sl.val):=by
 have no:∀ (i:Nat) t d,(ds.map Sl.val)[i]?≠some (.own t d):=fun i t d e=>by
  rw [List.getElem?_map] at e
  cases q:ds[i]? with
  | none=>rw [q] at e; cases e
  | some d'=>rw [q] at e; cases e
 refine ⟨s,by rw [List.length_map,List.length_map,r.length],fun i d e=>?_,fun i t d e=>absurd e (no i t d),fun i j t u d d' a e=>absurd e (no i t d)⟩
 rw [List.getElem?_map] at e
 cases q:ds[i]? with
 | none=>rw [q] at e; cases e
 | some d' =>
  rw [q] at e; cases e
  obtain ⟨v,h1,h2⟩:=r.get q
  exact ⟨v,by rw [List.getElem?_map,h1]; rfl,h2⟩
theorem zF8 (ds:List D):Shp (ds.map Sl.val):=fun i t d e=>by
 rw [List.getElem?_map] at e
 cases q:ds[i]? with
 | none=>rw [q] at e; cases e
 | some d'=>rw [q] at e; cases e
theorem New.share {a:Addr} {o:HO} (n:New F1 H1 F2 H2) (h:H1 a=none) (ho:H2 a=some o) (hf:F2 a=none):New F1 H1 (upd F2 a o) H2:=by
 refine ⟨⟨n.1.keep,n.1.dom,n.1.le.trans (.of_gr (Gr.new hf)),fun b u e=>?_,fun _ z=>z.elim⟩,fun b u e=>?_⟩
 ·by_cases hb:b=a
  ·subst hb; exact .inr (.inl (.none h))
  ·rw [zAF hb] at e; exact n.1.new b u e
 ·by_cases hb:b=a
  ·subst hb; rw [zAC] at e; rw [ho]; exact e
  ·rw [zAF hb] at e; exact n.2 b u e
noncomputable def gCall (m:Mr) (gs:List G):G:=fun E=>(gArgs gs E).bind fun p=>(m (p.1.map Sl.val)).bind fun q=>.ok (q.2.1,p.2)
noncomputable def zFE (m:Mr) (gs:List G):G:=fun E=>(gArgs gs E).bind fun p=>(m (p.1.map Sl.val)).bind fun q=>if q.1=true then .ok (q.2.1,p.2) else .bad
theorem zCL:∀ {gs:List G} {E:Ev} {q:List D × Ev},gArgs gs E=.ok q→q.1.length=gs.length
 | [],_,_,h=>by rw [gArgs] at h; cases h; rfl
 | g::gs,E,q,h=>by
  rw [gArgs] at h
  obtain ⟨p,_,h⟩:=Out.bind_ok h
  obtain ⟨r,e2,h⟩:=Out.bind_ok h
  cases h
  rw [List.length_cons,List.length_cons,zCL e2]
theorem zQD (hn:gs.length=np) {σ:St} {Q:VK} (h:tV K H₀ (gCall m gs) σ H Q):tCall (spV K np m) [] E0 (tAr K H₀ gs) σ H Q:=by
 obtain ⟨τ,F,E,d,E',S,hg,k⟩:=h
 obtain ⟨p,e1,hg⟩:=Out.bind_ok hg
 obtain ⟨q,e2,hg⟩:=Out.bind_ok hg
 cases hg
 refine ⟨τ,F,E,p.1,p.2,S,e1,fun vs F1 H1 s1 S1 r1=>?_⟩
 dsimp only
 rw [List.append_nil]
 refine ⟨by rw [r1.length,zCL e1,hn],0,F1,_,q.1,q.2.1,q.2.2,Sim.args S1.sub r1,zF8 _,e2,fun v F2 H2 s2 S2 rr=>?_⟩
 have n:New F1 H1 F2 H2:=⟨(s2.toF fun a=>noOwn a).weak fun _ z=>z.elim,S2.sub⟩
 cases hb:q.1 with
 | false =>
  rw [hb] at rr
  exact k v F2 H2 (s1.trans n.stp) (S1.new n) rr
 | true =>
  rw [hb] at rr
  obtain ⟨a,rfl,h1,h2,h3,h4⟩:=rr
  obtain ⟨o,ho,_⟩:=h2.ho
  have n':=n.share h3 ho h1
  exact k _ _ H2 (s1.trans n'.stp) (S1.new n') (h2.rep h1 ho)
theorem zNQ (hn:gs.length=np) {σ:St} {Q:VK} (h:tF K H₀ (zFE m gs) σ H Q):tCall (spV K np m) [] E0 (tAr K H₀ gs) σ H Q:=by
 obtain ⟨τ,F,E,d,E',S,hg,k⟩:=h
 obtain ⟨p,e1,hg⟩:=Out.bind_ok hg
 obtain ⟨q,e2,hg⟩:=Out.bind_ok hg
 split at hg
 ·rename_i hb
  cases hg
  refine ⟨τ,F,E,p.1,p.2,S,e1,fun vs F1 H1 s1 S1 r1=>?_⟩
  dsimp only
  rw [List.append_nil]
  refine ⟨by rw [r1.length,zCL e1,hn],0,F1,_,q.1,q.2.1,q.2.2,Sim.args S1.sub r1,zF8 _,e2,fun v F2 H2 s2 S2 rr=>?_⟩
  have n:New F1 H1 F2 H2:=⟨(s2.toF fun a=>noOwn a).weak fun _ z=>z.elim,S2.sub⟩
  rw [hb] at rr
  obtain ⟨a,rfl,h1,h2,h3,h4⟩:=rr
  exact k a F2 H2 (s1.trans n.stp) (S1.new n) h1 (s1.dom a h3) h2 (S1.fresh h3)
 ·cases hg
theorem zB2 (C:Cal X.prog X.w X.K X.mg X.base x k np m) (hr:Room k X.A) (ha:VA X (e::es) gs) (hn:gs.length=np:=by rfl) (hg:Gl X x:=by rfl) (hdb:(x == ("__debug__":Str))=false:=by decide)
  (he:starEach (e::es) X.env=(false,eval e X.env)::starEach es X.env:=by rfl) (hpl:(backTo pos (starEach es X.env)).any (·.1)=false:=by rfl):VE X (.Call (.Name x p) (e::es) [] pos) (gCall m gs):=by
 obtain ⟨f,fd,ps,Fn,hm,hk,hb⟩:=C
 exact (zFT Fn hr hg hm hk hb .nil pass0 ha hdb he hpl).imp fun _ _ _ h=>zQD hn h
theorem zSU (C:Cal X.prog X.w X.K X.mg X.base x k np m) (hr:Room k X.A) (ha:VA X (e::es) gs) (hn:gs.length=np:=by rfl) (hg:Gl X x:=by rfl) (hdb:(x == ("__debug__":Str))=false:=by decide)
  (he:starEach (e::es) X.env=(false,eval e X.env)::starEach es X.env:=by rfl) (hpl:(backTo pos (starEach es X.env)).any (·.1)=false:=by rfl):FE X (.Call (.Name x p) (e::es) [] pos) (zFE m gs):=by
 obtain ⟨f,fd,ps,Fn,hm,hk,hb⟩:=C
 exact (zFT Fn hr hg hm hk hb .nil pass0 ha hdb he hpl).imp fun _ _ _ h=>zNQ hn h
noncomputable def zAM (m:Mr) (i:Nat) (gs:List G):G:=fun E=>match E[i]? with
 | some (.own _ _)=>(gArgs gs E).bind fun p=>match p.2[i]? with
  | some (.own t d)=>(m (.own true d::p.1.map Sl.val)).bind fun q=>.ok (q.2.1,p.2.set i (.own t q.2.2))
  | _=>.bad
 | _=>.bad
theorem Sim.argsR {vs:List V} {ds:List D} {a:Addr} {d:D} (s:Sub F H) (r:Reps K F vs ds) (h1:F a=none) (h2:OwnAt K F H a d):Sim K H a F H ((V.ref a::vs).map some) (.own true d::ds.map Sl.val):=by
 have S:=Sim.args (K:=K) (H₀:=H) (τ:=a) s r
 have no:∀ (i:Nat) t d',(Sl.own true d::ds.map Sl.val)[i]?=some (.own t d')→i=0∧t=true∧d'=d:=fun i t d' e=>by
  cases i with
  | zero=>cases e; exact ⟨rfl,rfl,rfl⟩
  | succ i =>
   have e:(ds.map Sl.val)[i]?=some (.own t d'):=by simpa using e
   rw [List.getElem?_map] at e
   cases q:ds[i]? with
   | none=>rw [q] at e; cases e
   | some d'=>rw [q] at e; cases e
 refine ⟨s,by rw [List.length_map,List.length_cons,List.length_cons,List.length_map,r.length],fun i d' e=>?_,fun i t d' e=>?_,fun i j t u d1 d2 b e1 e2 _ _=>by rw [(no i _ _ e1).1,(no j _ _ e2).1]⟩
 ·cases i with
  | zero=>cases e
  | succ i=>simpa using S.val i d' (by simpa using e)
 ·obtain ⟨rfl,rfl,rfl⟩:=no i t d' e
  obtain ⟨o,ho,hw⟩:=h2.ho
  exact ⟨a,rfl,h1,h2,fun ob u z=>by rw [ho] at z; cases z; exact hw,fun _=>rfl⟩
theorem shpR {ds:List D} {d:D}:Shp (.own true d::ds.map Sl.val):=fun i t d' e=>by
 cases i with
 | zero=>cases e; exact ⟨rfl,rfl⟩
 | succ i =>
  have e:(ds.map Sl.val)[i]?=some (.own t d'):=by simpa using e
  exact absurd (zF8 ds i t d' e) (by
   rw [List.getElem?_map] at e
   cases q:ds[i]? with
   | none=>rw [q] at e; cases e
   | some d'=>rw [q] at e; cases e)
theorem owR {vs:List V} {ds:List D} {a b:Addr} {d:D} (h:owA ((V.ref a::vs).map some) (.own true d::ds.map Sl.val) b):b=a:=by
 obtain ⟨i,t,d',e1,e2⟩:=h
 obtain ⟨rfl,_⟩:=shpR i t d' e1
 cases e2
 rfl
theorem zNR {i : Nat} (hn : gs.length + 1 = np) {σ : St} {Q : VK} (h : tV K H₀ (zAM m i gs) σ H Q) : tCall (spV K np m) [] E0 (tCons (tVar i) (tAr K H₀ gs)) σ H Q := by
  obtain ⟨τ, F, E, d, E', S, hg, k⟩ := h
  unfold zAM at hg
  split at hg
  · rename_i t0 d0 e0
    obtain ⟨p, e1, hg⟩ := Out.bind_ok hg
    split at hg
    · rename_i t d1 e3
      obtain ⟨q, e2, hg⟩ := Out.bind_ok hg
      cases hg
      obtain ⟨a, a1, _⟩ := S.own i _ _ e0
      refine ⟨_, a1, τ, F, E, p.1, p.2, S, e1, fun vs F1 H1 s1 S1 r1 => ?_⟩
      dsimp only
      rw [List.append_nil]
      obtain ⟨a', b1, b2, b3, b4, b5⟩ := S1.own i _ _ e3
      rw [a1] at b1; cases b1
      refine ⟨by rw [List.length_cons, r1.length, zCL e1, hn], a, F1, _, q.1, q.2.1, q.2.2, Sim.argsR S1.sub r1 b2 b3, shpR, e2, fun v F2 H2 s2 S2 rr => ?_⟩
      have s2 : Stp (owA ((V.ref a :: vs).map some) (.own true d1 :: p.1.map Sl.val)) F1 H1 F2 H2 (owA ((V.ref a :: vs).map some) (.own true q.2.2 :: p.1.map Sl.val)) := s2
      have S2 : Sim K H1 a F2 H2 ((V.ref a :: vs).map some) (.own true q.2.2 :: p.1.map Sl.val) := S2
      have hi : i < p.2.length := (List.getElem?_eq_some_iff.mp e3).1
      have old : ∀ (j : Nat) t' d', (p.2.set i (.own t q.2.2))[j]? = some (.own t' d') → (j = i ∧ t' = t ∧ d' = q.2.2) ∨ (j ≠ i ∧ p.2[j]? = some (.own t' d')) := fun j t' d' z => by
        by_cases hj : i = j
        · subst hj; rw [List.getElem?_set_self hi] at z; cases z; exact .inl ⟨rfl, rfl, rfl⟩
        · rw [List.getElem?_set_ne hj] at z; exact .inr ⟨Ne.symm hj, z⟩
      have oin : ∀ b, owA σ (p.2.set i (.own t q.2.2)) b → owA σ p.2 b := fun b ⟨j, t', d', z1, z2⟩ => by
        rcases old j t' d' z1 with ⟨rfl, _, _⟩ | ⟨_, z1⟩
        · exact ⟨_, _, _, e3, z2⟩
        · exact ⟨j, t', d', z1, z2⟩
      have ina : owA σ p.2 a := ⟨i, t, d1, e3, a1⟩
      have st3 : Stp (owA σ p.2) F1 H1 F2 H2 (owA σ (p.2.set i (.own t q.2.2))) := ⟨fun b o z hw n ho => s2.keep b o z hw n fun y => ho (by rw [owR y]; exact ina), s2.dom, s2.le, fun b o z => (s2.new b o z).imp_right fun y => y.imp_right fun y => by rw [owR y]; exact ina, fun b z => .inl (oin b z)⟩
      have Sm : Sim K H₀ τ F2 H2 σ (p.2.set i (.own t q.2.2)) := by
        refine ⟨S2.sub, by rw [List.length_set]; exact S1.len, fun j d' z => ?_, fun j t' d' z => ?_, fun j l t1 t2 x y b z1 z2 y1 y2 => ?_⟩
        · by_cases hj : i = j
          · subst hj; rw [List.getElem?_set_self hi] at z; cases z
          · rw [List.getElem?_set_ne hj] at z
            obtain ⟨v, h1, h2⟩ := S1.val j d' z
            exact ⟨v, h1, h2.le s2.le⟩
        · rcases old j t' d' z with ⟨rfl, rfl, rfl⟩ | ⟨hj, z⟩
          · obtain ⟨c, c1, c2, c3, _⟩ := S2.own 0 true q.2.2 rfl
            cases c1
            exact ⟨a, a1, c2, c3, b4, b5⟩
          · obtain ⟨c, c1, c2, c3, c4⟩ := S1.own j t' d' z
            obtain ⟨o, ho, hw⟩ := c3.ho
            have hca : c ≠ a := fun y => hj (S1.inj j i t' t d' d1 a z e3 (by rw [c1, y]) a1)
            refine ⟨c, c1, ?_, c3.mono s2.le ((s2.keep c o ho hw c2 fun y => hca (owR y)).trans ho.symm), c4⟩
            cases y : F2 c with
            | none => rfl
            | some u => rcases s2.new c u y with y | y | y
                        · exact absurd c2 y
                        · exact absurd hw (y o ho)
                        · exact absurd (owR y) hca
        · have f : ∀ (j : Nat) t' d', (p.2.set i (.own t q.2.2))[j]? = some (.own t' d') → ∃ t'' d'', p.2[j]? = some (.own t'' d'') := fun j t' d' z => by
            rcases old j t' d' z with ⟨rfl, _, _⟩ | ⟨_, z⟩
            · exact ⟨_, _, e3⟩
            · exact ⟨_, _, z⟩
          obtain ⟨_, _, w1⟩ := f j _ _ z1
          obtain ⟨_, _, w2⟩ := f l _ _ z2
          exact S1.inj j l _ _ _ _ b w1 w2 y1 y2
      cases hb : q.1 with
      | false =>
        rw [hb] at rr
        exact k v F2 H2 (s1.trans st3) Sm rr
      | true =>
        rw [hb] at rr
        obtain ⟨c, rfl, h1, h2, h3, h4⟩ := rr
        obtain ⟨o, ho, _⟩ := h2.ho
        have nc : ∀ b, owA σ (p.2.set i (.own t q.2.2)) b → b ≠ c := fun b z y => by
          subst y
          exact S1.fresh h3 (oin b z)
        refine k _ (upd F2 c o) H2 (s1.trans ⟨st3.keep, st3.dom, st3.le.trans (.of_gr (Gr.new h1)), fun b u z => ?_, st3.own⟩) ⟨fun b u z => ?_, Sm.len, fun j d' z => ?_, fun j t' d' z => ?_, Sm.inj⟩ (h2.rep h1 ho)
        · by_cases hb : b = c
          · subst hb; exact .inr (.inl (.none h3))
          · rw [zAF hb] at z; exact st3.new b u z
        · by_cases hb : b = c
          · subst hb; rw [zAC] at z; rw [ho]; exact z
          · rw [zAF hb] at z; exact Sm.sub b u z
        · obtain ⟨v, y1, y2⟩ := Sm.val j d' z
          exact ⟨v, y1, y2.le (.of_gr (Gr.new h1))⟩
        · obtain ⟨b, y1, y2, y3, y4⟩ := Sm.own j t' d' z
          exact ⟨b, y1, by rw [zAF (nc b ⟨j, t', d', z, y1⟩)]; exact y2, y3.mono (.of_gr (Gr.new h1)) rfl, y4⟩
    · cases hg
  · cases hg
theorem zA2 {xn:Str} {q:Pos} (i:Nat) (C:Cal X.prog X.w X.K X.mg X.base x k np m) (hr:Room k X.A) (ha:VA X es gs) (hn:gs.length+1=np:=by rfl) (hg:Gl X x:=by rfl) (hdb:(x == ("__debug__":Str))=false:=by decide)
  (he:starEach (.Name xn q::es) X.env=(false,eval (.Name xn q) X.env)::starEach es X.env:=by rfl) (hpl:(backTo pos (starEach es X.env)).any (·.1)=false:=by rfl)
  (hN:X.N[i]?=some xn:=by rfl) (hv:Vis X.env.scope xn:=by first | exact Or.inl rfl | exact Or.inr (Or.inl rfl) | exact Or.inr (Or.inr rfl)) (hd:(xn == ("__debug__":Str))=false:=by decide)
  (hcd:(xn == ("__classdict__":Str))=false:=by decide):VE X (.Call (.Name x p) (.Name xn q::es) [] pos) (zAM m i gs):=by
 obtain ⟨f,fd,ps,Fn,hm,hk,hb⟩:=C
 exact (zFT Fn hr hg hm hk hb .nil pass0 (zA9 (zD5 hN hv hd hcd) ha he) hdb he hpl).imp fun _ _ _ h=>zNR hn h
end
end L2
namespace L2
open PySem PySem.Spec PyProof.Rows
theorem PTs.imp {X:Cx} {es:List Expr} {t t':TT} (h:PTs X es t) (hi:∀ σ H Q,t' σ H Q→t σ H Q):PTs X es t':=fun pins s σ H Q I q=>h pins s σ H Q I (hi σ H Q q)
noncomputable abbrev VTs (X:Cx) (es:List Expr) (g:Ev→Out (Bool × Ev)):Prop:=PTs X es (tT X.K X.H₀ g)
noncomputable def gYes:Ev→Out (Bool × Ev):=fun E=>.ok (true,E)
theorem zDJ {X:Cx}:VTs X [] gYes:=pts_nil.imp fun σ H Q h=>by
 obtain ⟨τ,F,E,d,E',S,hg,k⟩:=h
 cases hg
 exact k F H .refl S
theorem zLY {X:Cx} {c:Expr} {t:Ev→Out (Bool × Ev)} (h:VT X c t):VTs X [c] t:=zP1 h
theorem zLZ {l:List Nat} (h:l.Nodup) {i j x:Nat} (hi:l[i]?=some x) (hj:l[j]?=some x):i=j:=by
 obtain ⟨a1,a2⟩:=List.getElem?_eq_some_iff.mp hi
 obtain ⟨b1,b2⟩:=List.getElem?_eq_some_iff.mp hj
 have p:=List.pairwise_iff_getElem.mp h
 rcases Nat.lt_trichotomy i j with z | z | z
 ·exact absurd (a2.trans b2.symm) (p i j a1 b1 z)
 ·exact z
 ·exact absurd (b2.trans a2.symm) (p j i b1 a1 z)
noncomputable def capE (k:Nat) (js:List Nat) (E:Ev):Ev:=List.replicate k .no++js.map fun j=>(E[j]?).getD .no
noncomputable def findN (j:Nat):List Nat→Nat→Option Nat
 | [],_=>none
 | x::xs,n=>if x=j then some n else findN j xs (n+1)
theorem zFF {j:Nat}:∀ {js:List Nat} {n0 n:Nat},findN j js n0=some n→∃ m,n=n0+m∧js[m]?=some j
 | [],_,_,h=>by cases h
 | x::xs,n0,n,h=>by
  rw [findN] at h
  split at h
  ·rename_i hx; cases h; exact ⟨0,rfl,by simp [hx]⟩
  ·obtain ⟨m,h1,h2⟩:=zFF h; exact ⟨m+1,by omega,by simpa using h2⟩
theorem zFG {j:Nat}:∀ {js:List Nat} {n0:Nat},findN j js n0=none→j∉js
 | [],_,_=>by simp
 | x::xs,n0,h=>by
  rw [findN] at h
  split at h
  ·cases h
  ·rename_i hx
   have:=zFG h
   simp only [List.mem_cons,not_or]
   exact ⟨fun z=>hx z.symm,this⟩
noncomputable def bckS (Ec:Ev) (k:Nat) (js:List Nat) (j:Nat):Sl→Sl
 | .own t d=>match findN j js 0 with
  | some n=>(Ec[k+n]?).getD .no
  | none=>.own t d
 | s=>s
noncomputable def bckF (Ec:Ev) (k:Nat) (js:List Nat):Nat→Ev→Ev
 | _,[]=>[]
 | j,s::E=>bckS Ec k js j s::bckF Ec k js (j+1) E
noncomputable abbrev bck (E Ec:Ev) (k:Nat) (js:List Nat):Ev:=bckF Ec k js 0 E
theorem zI9 (Ec:Ev) (k:Nat) (js:List Nat):∀ (E:Ev) (j0 j:Nat),(bckF Ec k js j0 E)[j]?=(E[j]?).map (bckS Ec k js (j0+j))
 | [],_,_=>by simp [bckF]
 | s::E,j0,0=>by simp [bckF]
 | s::E,j0,j+1=>by
  show (bckF Ec k js (j0+1) E)[j]?=_
  rw [zI9 Ec k js E (j0+1) j,List.getElem?_cons_succ,show j0+1+j=j0+(j+1) by omega]
theorem zJA (Ec:Ev) (k:Nat) (js:List Nat):∀ (E:Ev) (j0:Nat),(bckF Ec k js j0 E).length=E.length
 | [],_=>rfl
 | s::E,j0=>by rw [bckF,List.length_cons,List.length_cons,zJA Ec k js E (j0+1)]
theorem zF9 {E Ec:Ev} {k:Nat} {js:List Nat} {j:Nat} {s:Sl} (h:(bck E Ec k js)[j]?=some s):(E[j]?=some s∧((∃ t d,s=.own t d)→j∉js))∨∃ t d n,E[j]?=some (.own t d)∧js[n]?=some j∧s=(Ec[k+n]?).getD .no:=by
 rw [zI9,Nat.zero_add] at h
 cases q:E[j]? with
 | none=>rw [q] at h; cases h
 | some s0 =>
  rw [q] at h
  have h:bckS Ec k js j s0=s:=Option.some.inj h
  cases s0 with
  | no=>cases h; exact .inl ⟨rfl,fun ⟨_,_,z⟩=>by cases z⟩
  | val d=>cases h; exact .inl ⟨rfl,fun ⟨_,_,z⟩=>by cases z⟩
  | own t d =>
   cases f:findN j js 0 with
   | none =>
    have:bckS Ec k js j (.own t d)=.own t d:=by unfold bckS; rw [f]
    rw [this] at h
    exact .inl ⟨by rw [h],fun _=>zFG f⟩
   | some n =>
    obtain ⟨m,h1,h2⟩:=zFF f
    have:bckS Ec k js j (.own t d)=(Ec[k+n]?).getD .no:=by unfold bckS; rw [f]
    rw [this] at h
    exact .inr ⟨t,d,m,rfl,h2,by rw [← h]; congr 2; omega⟩
theorem zEH {k:Nat} {js:List Nat} {E:Ev} {i:Nat} {s:Sl} (h:(capE k js E)[i]?=some s) (hs:s≠.no):∃ n j,i=k+n∧js[n]?=some j∧E[j]?=some s:=by
 unfold capE at h
 by_cases hi:i<k
 ·rw [List.getElem?_append_left (by rw [List.length_replicate]; exact hi),List.getElem?_replicate,if_pos hi] at h
  exact absurd (Option.some.inj h).symm hs
 ·rw [List.getElem?_append_right (by rw [List.length_replicate]; omega),List.length_replicate,List.getElem?_map] at h
  cases q:js[i - k]? with
  | none=>rw [q] at h; cases h
  | some j =>
   rw [q] at h
   have h:(E[j]?).getD .no=s:=Option.some.inj h
   refine ⟨i - k,j,by omega,q,?_⟩
   cases z:E[j]? with
   | none=>rw [z] at h; exact absurd h.symm hs
   | some s'=>rw [z] at h; rw [← h]; rfl
theorem zB9 {k:Nat} {js:List Nat} {σ:St} {n j:Nat} (h:js[n]?=some j):(capOf k js σ)[k+n]?=some ((σ[j]?).getD none):=by
 unfold capOf
 rw [List.getElem?_append_right (by rw [List.length_replicate]; omega),List.length_replicate,List.getElem?_map,show k+n - k=n by omega,h]
 rfl
section
variable {K:PySem.W.Frag} {H₀ F H F1 H1 F2 H2:Hp} {τ:Addr} {σ σ2:St} {E E1 E2:Ev} {k:Nat} {js:List Nat} {acc:Addr} {o:HO}
theorem Sim.off (S:Sim K H₀ τ F H σ E) (hf:F acc=none) (no:¬ owA σ E acc):Sim K H₀ τ F (upd H acc o) σ E:=by
 refine ⟨fun a u e=>?_,S.len,S.val,fun i t d e=>?_,S.inj⟩
 ·have:a≠acc:=fun z=>by rw [z,hf] at e; cases e
  rw [zAF this]; exact S.sub a u e
 ·obtain ⟨a,h1,h2,h3,h4⟩:=S.own i t d e
  have:a≠acc:=fun z=>no ⟨i,t,d,e,by rw [← z]; exact h1⟩
  exact ⟨a,h1,h2,h3.mono (.refl _) (zAF this),h4⟩
theorem Sim.notF (S:Sub F H) (h:H acc=none):F acc=none:=by
 cases e:F acc with
 | none=>rfl
 | some u=>rw [S acc u e] at h; cases h
theorem zL0 {a:Addr} (h:owA (capOf k js σ) (capE k js E) a):∃ (n j:Nat) (t:Bool) (d:D),js[n]?=some j∧E[j]?=some (.own t d)∧σ[j]?=some (some (.ref a)):=by
 obtain ⟨i,t,d,e1,e2⟩:=h
 obtain ⟨n,j,rfl,h1,h2⟩:=zEH e1 (by intro z; cases z)
 rw [zB9 h1] at e2
 refine ⟨n,j,t,d,h1,h2,?_⟩
 cases q:σ[j]? with
 | none=>rw [q] at e2; cases e2
 | some z=>rw [q] at e2; cases e2; rfl
theorem Sim.enter (S:Sim K H₀ τ F H σ E) (k:Nat) (hj:js.Nodup) (ha:H acc=none):Sim K (upd H acc o) τ F (upd H acc o) (capOf k js σ) (capE k js E):=by
 have hf:=Sim.notF S.sub ha
 refine ⟨fun a u e=>?_,by unfold capE capOf; simp,fun i d e=>?_,fun i t d e=>?_,fun i j t u d d' a e1 e2 z1 z2=>?_⟩
 ·have:a≠acc:=fun z=>by rw [z,hf] at e; cases e
  rw [zAF this]; exact S.sub a u e
 ·obtain ⟨n,j,rfl,h1,h2⟩:=zEH e (by intro z; cases z)
  obtain ⟨v,h3,h4⟩:=S.val j d h2
  exact ⟨v,by rw [zB9 h1,h3]; rfl,h4⟩
 ·obtain ⟨n,j,rfl,h1,h2⟩:=zEH e (by intro z; cases z)
  obtain ⟨a,h3,h4,h5,h6,h7⟩:=S.own j t d h2
  obtain ⟨ob,ho,hw⟩:=h5.ho
  have:a≠acc:=fun z=>by rw [z,ha] at ho; cases ho
  exact ⟨a,by rw [zB9 h1,h3]; rfl,h4,h5.mono (.refl _) (zAF this),fun w u z=>by rw [zAF this,ho] at z; cases z; exact hw,h7⟩
 ·obtain ⟨n,l,rfl,h1,h2⟩:=zEH e1 (by intro z; cases z)
  obtain ⟨n',l',rfl,h1',h2'⟩:=zEH e2 (by intro z; cases z)
  rw [zB9 h1] at z1
  rw [zB9 h1'] at z2
  have w1:σ[l]?=some (some (.ref a)):=by
   cases q:σ[l]? with
   | none=>rw [q] at z1; cases z1
   | some z=>rw [q] at z1; cases z1; rfl
  have w2:σ[l']?=some (some (.ref a)):=by
   cases q:σ[l']? with
   | none=>rw [q] at z2; cases z2
   | some z=>rw [q] at z2; cases z2; rfl
  have:=S.inj l l' t u d d' a h2 h2' w1 w2
  subst this
  rw [zLZ hj h1 h1']
theorem Sim.leave (S : Sim K H₀ τ F1 H1 σ E1) (ha : H1 acc = none) (s : Stp (fun a => owA (capOf k js σ) (capE k js E1) a ∨ a = acc) F1 (upd H1 acc o) F2 H2 (owA σ2 E2))
    (S2 : Sim K (upd H1 acc o) τ F2 H2 σ2 E2) (hs : ∀ j : Nat, k ≤ j → σ2[j]? = (capOf k js σ)[j]?) :
    Sim K H₀ τ F2 H2 σ (bck E1 E2 k js) ∧ Stp (owA σ E1) F1 H1 F2 H2 (owA σ (bck E1 E2 k js)) := by
  have cow : ∀ a, owA (capOf k js σ) (capE k js E1) a → owA σ E1 a := fun a h => let ⟨n, j, t, d, _, h2, h3⟩ := zL0 h; ⟨j, t, d, h2, h3⟩
  have ne : ∀ a u, H1 a = some u → a ≠ acc := fun a u e z => by rw [z, ha] at e; cases e
  have slot : ∀ (n j : Nat), js[n]? = some j → σ2[k + n]? = some ((σ[j]?).getD none) := fun n j h => by rw [hs (k + n) (by omega), zB9 h]
  have inown : ∀ (j : Nat) t d, (bck E1 E2 k js)[j]? = some (.own t d) → ∃ t' d', E1[j]? = some (.own t' d') := fun j t d e => by
    rcases zF9 e with ⟨h, _⟩ | ⟨t', d', n, h, _⟩
    · exact ⟨t, d, h⟩
    · exact ⟨t', d', h⟩
  have st : Stp (owA σ E1) F1 H1 F2 H2 (owA σ (bck E1 E2 k js)) := by
    refine ⟨fun a u e hw n ho => s.keep a u (by rw [zAF (ne a u e)]; exact e) hw n fun z => z.elim (fun z => ho (cow a z)) (ne a u e), fun a e => ?_, s.le, fun a u e => ?_, fun a ⟨j, t, d, e1, e2⟩ => ?_⟩
    · have := s.dom a e
      by_cases h : a = acc
      · rw [h]; exact ha
      · rw [zAF h] at this; exact this
    · rcases s.new a u e with z | z | z | z
      · exact .inl z
      · by_cases h : a = acc
        · rw [h]; exact .inr (.inl (.none ha))
        · exact .inr (.inl fun o' e' => z o' (by rw [zAF h]; exact e'))
      · exact .inr (.inr (cow a z))
      · rw [z]; exact .inr (.inl (.none ha))
    · obtain ⟨t', d', h⟩ := inown j t d e1
      exact .inl ⟨j, t', d', h, e2⟩
  refine ⟨⟨S2.sub, by rw [zJA]; exact S.len, fun j d e => ?_, fun j t d e => ?_, fun i j t u d d' a e1 e2 z1 z2 => ?_⟩, st⟩
  · rcases zF9 e with ⟨h, _⟩ | ⟨t', d', n, h, h1, h2⟩
    · obtain ⟨v, h1, h2⟩ := S.val j d h
      exact ⟨v, h1, h2.le s.le⟩
    · have e2 : E2[k + n]? = some (.val d) := by
        cases q : E2[k + n]? with
        | none => rw [q] at h2; cases h2
        | some z => rw [q] at h2; rw [h2]; rfl
      obtain ⟨v, h3, h4⟩ := S2.val _ d e2
      rw [slot n j h1] at h3
      refine ⟨v, ?_, h4⟩
      cases q : σ[j]? with
      | none => rw [q] at h3; cases h3
      | some z => rw [q] at h3; cases h3; rfl
  · rcases zF9 e with ⟨h, h'⟩ | ⟨t', d', n, h, h1, h2⟩
    · have hj := h' ⟨t, d, rfl⟩
      obtain ⟨a, c1, c2, c3, c4⟩ := S.own j t d h
      obtain ⟨ob, ho, hw⟩ := c3.ho
      have nc : ¬ (owA (capOf k js σ) (capE k js E1) a ∨ a = acc) := fun z => by
        rcases z with z | z
        · obtain ⟨n, l, t2, d2, y1, y2, y3⟩ := zL0 z
          have := S.inj j l t t2 d d2 a h y2 c1 y3
          subst this
          exact hj (List.mem_of_getElem? y1)
        · exact ne a ob ho z
      refine ⟨a, c1, ?_, c3.mono s.le ((s.keep a ob (by rw [zAF (ne a ob ho)]; exact ho) hw c2 nc).trans ho.symm), c4⟩
      cases y : F2 a with
      | none => rfl
      | some u => rcases s.new a u y with y | y | y
                  · exact absurd c2 y
                  · exact absurd hw (y ob (by rw [zAF (ne a ob ho)]; exact ho))
                  · exact absurd y nc
    · have e2 : E2[k + n]? = some (.own t d) := by
        cases q : E2[k + n]? with
        | none => rw [q] at h2; cases h2
        | some z => rw [q] at h2; rw [h2]; rfl
      obtain ⟨a, h3, h4, h5, h6, h7⟩ := S2.own _ t d e2
      rw [slot n j h1] at h3
      obtain ⟨a', c1, c2, c3, c4, c5⟩ := S.own j t' d' h
      rw [c1] at h3
      cases h3
      exact ⟨a, c1, h4, h5, c4, h7⟩
  · obtain ⟨_, _, h1⟩ := inown i t d e1
    obtain ⟨_, _, h2⟩ := inown j u d' e2
    exact S.inj i j _ _ _ _ a h1 h2 z1 z2
end
section
variable {X:Cx} {scope:Scope} {cl:List (Str × Addr)} {own caps:List Str} {js:List Nat} {K:PySem.W.Frag} {H₀:Hp}
end
noncomputable abbrev GM:=D→Ev→Out (D × Ev)
theorem Stp.more {ow ow1:Addr→Prop} {F H F1 H1:Hp} {acc:Addr} (x:Stp ow F H F1 H1 ow1):Stp (fun a=>ow a∨a=acc) F H F1 H1 (fun a=>ow1 a∨a=acc) :=
 ⟨fun a o e w f n=>x.keep a o e w f fun z=>n (.inl z),x.dom,x.le,fun a o e=>(x.new a o e).imp id fun z=>z.imp id .inl,fun a q=>q.elim (fun z=>(x.own a z).imp .inl id) fun z=>.inl (.inr z)⟩
noncomputable def tMA (K:PySem.W.Frag) (H₀:Hp) (acc:Addr) (k:Nat) (g:GM):TM:=fun σ H N=>∃ τ F E d d' E',Sim K H₀ τ F H σ E∧F acc=none∧¬ owA σ E acc∧OwnAt K F H acc d∧g d E=.ok (d',E') ∧
 ∀ σ' F' H',Stp (fun a=>owA σ E a∨a=acc) F H F' H' (fun a=>owA σ' E' a∨a=acc)→Sim K H₀ τ F' H' σ' E'→F' acc=none→¬ owA σ' E' acc→OwnAt K F' H' acc d'→(∀ j:Nat,k≤j→σ'[j]?=σ[j]?)→N σ' H'
noncomputable def gClM (t:Tg) (tt:Ev→Out (Bool × Ev)) (gm:GM):List D→GM
 | [],d,E=>.ok (d,E)
 | x::xs,d,E=>(gTg t x E).bind fun E1=>(tt E1).bind fun b=>if b.1=true then (gm d b.2).bind fun q=>gClM t tt gm xs q.1 q.2 else gClM t tt gm xs d b.2
section
variable {X:Cx} {K:PySem.W.Frag} {H₀ F H F1 H1:Hp} {τ:Addr} {σ:St} {E:Ev} {acc:Addr} {k:Nat} {pos:Pos}
theorem stayM {σ' : St} {Ea Eb : Ev} {Fa Ha Fb Hb : Hp} {d : D} (st : Stp (owA σ' Ea) Fa Ha Fb Hb (owA σ' Eb)) (a1 : Fa acc = none) (a2 : ¬ owA σ' Ea acc) (a3 : OwnAt K Fa Ha acc d) : Fb acc = none ∧ ¬ owA σ' Eb acc ∧ OwnAt K Fb Hb acc d := by
  obtain ⟨o, ho, hw⟩ := a3.ho
  have hb := st.keep acc o ho hw a1 a2
  refine ⟨?_, fun z => (st.own acc z).elim a2 fun z => by (rw [ho] at z; cases z), a3.mono st.le (hb.trans ho.symm)⟩
  cases z : Fb acc with
  | none => rfl
  | some u => rcases st.new acc u z with z | z | z
              · exact absurd a1 z
              · exact absurd hw (z _ ho)
              · exact absurd z a2
theorem walkM {J:It} {t:Tg} {tt:Ev→Out (Bool × Ev)} {gm:GM} {ds:List D} (hlt:t.ltn k=true) {N:St→Hp→Prop} {d d':D} {E':Ev} (S:Sim K H₀ τ F H σ E) (hf:F acc=none) (no:¬ owA σ E acc) (ho:OwnAt K F H acc d) (hw:Walks K J F ds)
  (hg:gClM t tt gm ds d E=.ok (d',E'))
  (hN:∀ σ' F' H',Stp (fun a=>owA σ E a∨a=acc) F H F' H' (fun a=>owA σ' E' a∨a=acc)→Sim K H₀ τ F' H' σ' E'→F' acc=none→¬ owA σ' E' acc→OwnAt K F' H' acc d'→(∀ j:Nat,k≤j→σ'[j]?=σ[j]?)→N σ' H') :
  tWalkC J (tG K H₀ t) (tT K H₀ tt) (tMA K H₀ acc k gm) σ H N:=by
 refine ⟨fun i m σ2 H2=>m=ds.length - i∧i≤ds.length∧∃ F2 E2 d2,Sim K H₀ τ F2 H2 σ2 E2∧Stp (fun a=>owA σ E a∨a=acc) F H F2 H2 (fun a=>owA σ2 E2 a∨a=acc) ∧
   F2 acc=none∧¬ owA σ2 E2 acc∧OwnAt K F2 H2 acc d2∧(∀ j:Nat,k≤j→σ2[j]?=σ[j]?)∧gClM t tt gm (ds.drop i) d2 E2=.ok (d',E'),
  ⟨_,rfl,Nat.zero_le _,F,E,d,S,Stp.refl,hf,no,ho,fun _ _=>rfl,by rw [List.drop_zero]; exact hg⟩,?_⟩
 rintro i m σ2 H2 ⟨rfl,hil,F2,E2,d2,S2,s2,f2,n2,o2,hs2,g2⟩
 obtain ⟨w2,w3,w4⟩:=hw i F2 H2 s2.le S2.sub
 by_cases hi:i<ds.length
 ·obtain ⟨x,hd⟩:∃ d,ds[i]?=some d:=⟨ds[i],by simp [hi]⟩
  have hdr:ds.drop i=x::ds.drop (i+1):=by
   rw [List.drop_eq_getElem_cons hi]
   have:ds[i]=x:=by rw [List.getElem?_eq_getElem hi] at hd; exact Option.some.inj hd
   rw [this]
  rw [hdr,gClM] at g2
  obtain ⟨E3,e3,g2⟩:=Out.bind_ok g2
  obtain ⟨b,e4,g2⟩:=Out.bind_ok g2
  refine .inr ⟨w2 hi,fun y H' yl=>?_⟩
  obtain ⟨F3,n3,r3⟩:=w4 y H' x hd yl
  obtain ⟨f3,m3,o3⟩:=stayM (n3.stp (ow:=owA σ2 E2)) f2 n2 o2
  refine ⟨τ,F3,E2,x,E3,S2.new n3,r3,e3,fun σ4 S4 o4 b4=>?_⟩
  have m4:¬ owA σ4 E3 acc:=fun z=>n2 (o4 acc z)
  have hs4:∀ j:Nat,k≤j→σ4[j]?=σ[j]?:=fun j hj=>by rw [b4 k hlt j hj,hs2 j hj]
  have s4:Stp (fun a=>owA σ E a∨a=acc) F H F3 H' (fun a=>owA σ4 E3 a∨a=acc):=(s2.trans n3.stp).weak fun a z=>z.imp (o4 a) id
  refine ⟨τ,F3,E3,b.1,b.2,S4,e4,fun F5 H5 s5 S5=>?_⟩
  obtain ⟨f5,m5,o5⟩:=stayM s5 f3 m4 o3
  have s5':=s4.trans (s5.more (acc:=acc))
  dsimp only
  by_cases hb:b.1=true
  ·rw [if_pos hb] at g2 ⊢
   obtain ⟨z,e6,g2⟩:=Out.bind_ok g2
   refine ⟨τ,F5,b.2,d2,z.1,z.2,S5,f5,m5,o5,e6,fun σ6 F6 H6 s6 S6 f6 m6 o6 hs6=>?_⟩
   exact ⟨_,by omega,rfl,hi,F6,z.2,z.1,S6,s5'.trans s6,f6,m6,o6,fun j hj=>by rw [hs6 j hj,hs4 j hj],g2⟩
  ·rw [if_neg hb] at g2 ⊢
   exact ⟨_,by omega,rfl,hi,F5,b.2,d2,S5,s5',f5,m5,o5,hs4,g2⟩
 ·have hi:i=ds.length:=by omega
  rw [List.drop_eq_nil_of_le (by omega),gClM] at g2
  cases g2
  exact .inl ⟨w3 hi,hN σ2 F2 H2 s2 S2 f2 n2 o2 hs2⟩
theorem upAcc {σ':St} {E':Ev} {F6 H6:Hp} {o:HO} (s6:Stp (owA σ E) F H F6 H6 (owA σ' E')):Stp (fun a=>owA σ E a∨a=acc) F H F6 (upd H6 acc o) (fun a=>owA σ' E' a∨a=acc):=by
 have st:=s6.more (acc:=acc)
 refine ⟨fun a u e hw n ho=>by rw [zAF (fun y=>ho (.inr y))]; exact st.keep a u e hw n ho,fun a e=>?_,st.le,st.new,st.own⟩
 by_cases hac:a=acc
 ·rw [hac,zAC] at e; cases e
 ·rw [zAF hac] at e; exact st.dom a e
noncomputable def gEmit (ge:G):GM:=fun d E=>(ge E).bind fun p=>match d with | .lst ds=>few ds.length (.ok (.lst (ds++[p.1]),p.2)) | _=>.bad
theorem zNS {ge:G} {N:St→Hp→Prop} (h:tMA K H₀ acc k (gEmit ge) σ H N):tEmit acc (tV K H₀ ge) σ H N:=by
 obtain ⟨τ,F,E,d,d',E',S,f,n,o,hg,k⟩:=h
 obtain ⟨p,e1,hg⟩:=Out.bind_ok hg
 split at hg
 ·rename_i ds
  obtain ⟨hz,hg⟩:=zB8 hg
  cases hg
  refine ⟨τ,F,E,p.1,p.2,S,e1,fun y F6 H6 s6 S6 r6=>?_⟩
  obtain ⟨f6,m6,ys,h6,r2⟩:=stayM s6 f n o
  exact ⟨ys,h6,by rw [r2.length]; exact zEG hz,k σ F6 _ (upAcc s6) (S6.off f6 m6) f6 m6 ⟨_,zAC,r2.append (.cons r6 .nil)⟩ fun _ _=>rfl⟩
 ·cases hg
noncomputable def zJB (gi:GI) (k:Nat) (js:List Nat) (d0:D) (t:Tg) (tt:Ev→Out (Bool × Ev)) (gm:GM):G:=fun E=>(gi E).bind fun p=>(gClM t tt gm p.1 d0 (capE k js p.2)).bind fun q=>.ok (q.1,bck p.2 q.2 k js)
theorem zNT {gi:GI} {k:Nat} {js:List Nat} {d0:D} {o:HO} {t:Tg} {tt:Ev→Out (Bool × Ev)} {gm:GM} (hd0:∀ (F H:Hp) (a:Addr),OwnAt K F (upd H a o) a d0) (hlt:t.ltn k=true) (hj:js.Nodup) {σ:St} {H:Hp} {Q:VK} (h:tF K H₀ (zJB gi k js d0 t tt gm) σ H Q) :
  zG2 (tI K H₀ gi) k js o (fun H=>tG K H t) (fun H=>tT K H tt) (fun H acc=>tMA K H acc k gm) σ H Q:=by
 obtain ⟨τ,F,E,d,E',S,hg,kq⟩:=h
 obtain ⟨p,e1,hg⟩:=Out.bind_ok hg
 obtain ⟨q,e2,hg⟩:=Out.bind_ok hg
 cases hg
 refine ⟨τ,F,E,p.1,p.2,S,e1,fun J F1 H1 s1 S1 w1 acc ha=>?_⟩
 have hf:=Sim.notF S1.sub ha
 have S0:=S1.enter (o:=o) k hj ha
 have no:¬ owA (capOf k js σ) (capE k js p.2) acc:=fun z=>by
  obtain ⟨n,j,t',d',_,z2,z3⟩:=zL0 z
  exact S1.fresh ha ⟨j,t',d',z2,z3⟩
 refine walkM hlt S0 hf no (hd0 _ _ _) w1 e2 fun σ2 F2 H2 s2 S2 f2 n2 o2 hs2=>?_
 have s2':Stp (fun a=>owA (capOf k js σ) (capE k js p.2) a∨a=acc) F1 (upd H1 acc o) F2 H2 (owA σ2 q.2):=s2.weak fun a z=>.inl z
 obtain ⟨S9,s9⟩:=S1.leave ha s2' S2 hs2
 refine kq acc F2 H2 (s1.trans s9) S9 f2 (s1.dom acc ha) o2 fun z=>?_
 exact (s9.own acc z).elim (fun y=>S1.fresh ha y) fun y=>S1.fresh ha (by
   obtain ⟨j,t',d',z1,z2⟩:=z
   rcases zF9 z1 with ⟨h,_⟩ | ⟨t'',d'',n,h,_⟩
   ·exact ⟨j,t',d',h,z2⟩
   ·exact ⟨j,t'',d'',h,z2⟩)
theorem tWalkC.imp {J:It} {g:TG} {tt:TT} {tm tm':TM} (hi:∀ σ H N,tm σ H N→tm' σ H N) {N:St→Hp→Prop} (mt:∀ (σ:St) (H:Hp) (P P':Bool→Hp→Prop),(∀ b H2,P b H2→P' b H2)→tt σ H P→tt σ H P') (mg:∀ (x:V) (σ:St) (H:Hp) (P P':St→Hp→Prop),(∀ σ2 H2,P σ2 H2→P' σ2 H2)→g x σ H P→g x σ H P') (h:tWalkC J g tt tm σ H N):tWalkC J g tt tm' σ H N:=by
 obtain ⟨W,w0,turn⟩:=h
 refine ⟨W,w0,fun i m σ H w=>(turn i m σ H w).imp id fun ⟨go,st⟩=>⟨go,fun x H' y=>mg _ _ _ _ _ (fun σ2 H2 q=>mt _ _ _ _ (fun b H3 q=>?_) q) (st x H' y)⟩⟩
 cases b with
 | true=>rw [if_pos rfl] at q ⊢; exact hi _ _ _ q
 | false=>rw [if_neg Bool.false_ne_true] at q ⊢; exact q
theorem zQE {tt:Ev→Out (Bool × Ev)} (σ:St) (H:Hp) (P P':Bool→Hp→Prop) (hp:∀ b H2,P b H2→P' b H2) (h:tT K H₀ tt σ H P):tT K H₀ tt σ H P' :=
 let ⟨τ,F,E,b,E',S,hg,k⟩:=h; ⟨τ,F,E,b,E',S,hg,fun F' H' s S'=>hp _ _ (k F' H' s S')⟩
theorem zQF {t:Tg} (x:V) (σ:St) (H:Hp) (P P':St→Hp→Prop) (hp:∀ b H2,P b H2→P' b H2) (h:tG K H₀ t x σ H P):tG K H₀ t x σ H P' :=
 let ⟨τ,F,E,d,E',S,r,hg,k⟩:=h; ⟨τ,F,E,d,E',S,r,hg,fun σ' a b c=>hp _ _ (k σ' a b c)⟩
variable {scope:Scope} {cl:List (Str × Addr)} {own caps:List Str} {js:List Nat}
theorem zQG {gi:GI} {R R':It→Hp→Prop} (hp:∀ J H2,R J H2→R' J H2) (h:tI K H₀ gi σ H R):tI K H₀ gi σ H R' :=
 let ⟨τ,F,E,ds,E',S,hg,k⟩:=h; ⟨τ,F,E,ds,E',S,hg,fun J F' H' a b c=>hp _ _ (k J F' H' a b c)⟩
noncomputable def gComp (gi:GI) (k:Nat) (js:List Nat) (t:Tg) (tt:Ev→Out (Bool × Ev)) (ge:G):G:=zJB gi k js (.lst []) t tt (gEmit ge)
theorem zL1 {gi:GI} {k:Nat} {t:Tg} {tt:Ev→Out (Bool × Ev)} {ge:G} (hlt:t.ltn k=true) (hj:js.Nodup) {σ:St} {H:Hp} {Q:VK} (h:tF K H₀ (gComp gi k js t tt ge) σ H Q) :
  zG2 (tI K H₀ gi) k js (.lst []) (fun H=>tG K H t) (fun H=>tT K H tt) (fun H acc=>tEmit acc (tV K H ge)) σ H Q :=
 zQG (fun J H2 q acc ha=>tWalkC.imp (fun _ _ _ z=>zNS z) (fun σ H=>zQE σ H) (fun x σ H=>zQF x σ H) (q acc ha)) (zNT (o:=.lst []) (d0:=.lst []) (fun F H a=>⟨[],zAC,.nil⟩) hlt hj h)
theorem zEI {elt tg iter:Expr} {ifs:List Expr} {pos:Pos} {gi:GI} {t:Tg} {tt:Ev→Out (Bool × Ev)} {ge:G} (n:CompNm X scope cl own caps js) (hc:X.calm=true) (hi:VI X tg iter gi)
  (hg:∀ C s H fp,VG (zAW X scope cl (own++caps) C s H fp) tg t) (ht:∀ C s H fp,VTs (zAW X scope cl (own++caps) C s H fp) ifs tt) (he:∀ C s H fp,VE (zAW X scope cl (own++caps) C s H fp) elt ge)
  (hlt:t.ltn own.length=true:=by rfl) (hj:js.Nodup:=by decide) (hs:∀ x,foldedSetIterable iter X.env x=pure x:=by intro _; rfl):FE X (.ListComp elt [⟨tg,iter,ifs,0⟩] scope pos) (gComp gi own.length js t tt ge) :=
 (zP3 (g:=fun H=>tG X.K H t) (tt:=fun H=>tT X.K H tt) (te:=fun H=>tV X.K H ge) n hc hi hg ht he hs).imp fun _ _ _ h=>zL1 hlt hj h
end
end L2
namespace L2
open PySem PySem.Spec PyProof.Rows
mutual
noncomputable def D.py:D→Option PyData
 | .non=>some .none
 | .bl b=>some (.bool b)
 | .int i=>some (.int i)
 | .str x=>if PyData.canLay0 (.str x)=true then some (.str x) else none
 | .tup xs=>(D.pys xs).map .tuple
 | .lst xs=>(D.pys xs).map .list
 | .dk _=>none
 | .dt _=>none
noncomputable def D.pys:List D→Option (List PyData)
 | []=>some []
 | d::ds=>match d.py,D.pys ds with
  | some p,some ps=>some (p::ps)
  | _,_=>none
end
section
variable {K:PySem.W.Frag} {F H:Hp}
mutual
theorem Rep.dv (s:Sub F H):∀ (d:D) {v:V} {p:PyData},Rep K F v d→d.py=some p→DV K H v p
 | .non,_,_,.non,e=>by rw [D.py] at e; cases e; exact .non
 | .bl b,_,_,.bl _,e=>by rw [D.py] at e; cases e; exact .bl b
 | .int i,_,_,.int _,e=>by rw [D.py] at e; cases e; exact .int i
 | .str x,_,_,.str _,e=>by
  rw [D.py] at e
  split at e
  ·rename_i h; cases e; exact .str x h
  ·cases e
 | .tup xs,_,_,r,e=>by
  rw [D.py] at e
  obtain ⟨ps,h1,h2⟩:=Option.map_eq_some_iff.mp e
  subst h2
  obtain ⟨a,vs,rfl,r,sq⟩:=r.tupSq
  exact .tup (sq F H (.refl _) s) (Reps.dv s xs r h1)
 | .lst xs,_,_,.lst h r,e=>by
  rw [D.py] at e
  obtain ⟨ps,h1,h2⟩:=Option.map_eq_some_iff.mp e
  subst h2
  exact .lst (h.imp s.rd id) (Reps.dv s xs r h1)
 | .dk _,_,_,_,e=>by rw [D.py] at e; cases e
 | .dt _,_,_,_,e=>by rw [D.py] at e; cases e
theorem Reps.dv (s:Sub F H):∀ (d:List D) {v:List V} {p:List PyData},Reps K F v d→D.pys d=some p→DVs K H v p
 | [],_,_,.nil,e=>by rw [D.pys] at e; cases e; exact .nil
 | d::ds,_,_,.cons h r,e=>by
  rw [D.pys] at e
  split at e
  ·rename_i p ps e1 e2
   cases e
   exact .cons (Rep.dv s d h e1) (Reps.dv s ds r e2)
  ·cases e
end
end
noncomputable def eqD (x y:D):Out D:=match x.py,y.py with
 | some p,some q=>if min p.depth q.depth≤60 then .ok (.bl (PyData.eqv p q)) else .bad
 | _,_=>.bad
noncomputable def neD (x y:D):Out D:=match x.py,y.py with
 | some p,some q=>if min p.depth q.depth≤60 then .ok (.bl (!PyData.eqv p q)) else .bad
 | _,_=>.bad
section
variable {X:Cx} {K:PySem.W.Frag} {F H:Hp} {a b c e:Expr} {ga gb ge:G} {pos:Pos}
theorem zO1:OpS K (rEqD K true) neD:=fun v u x y F H d Q s r1 r2 hf k=>by
 unfold neD at hf
 split at hf
 ·rename_i p q e1 e2
  split at hf
  ·rename_i hm
   cases hf
   exact ⟨p,q,r1.dv s _ e1,r2.dv s _ e2,hm,k _ F H (.refl s) (.bl _)⟩
  ·cases hf
 ·cases hf
theorem vt_ne (hu:X.A.units+64<cLine) (ha:VE X a ga) (hb:VE X b gb) (hm:behindInMarks .NotEq b=false:=by with_unfolding_all rfl):VT X (.Compare a [.NotEq] [b] pos) (gB (g2 neD ga gb)):=zDS (zOY hu) zO1 ha hb hm
theorem v_ne (hu:X.A.units+64<cLine) (ha:VE X a ga) (hb:VE X b gb) (hm:behindInMarks .NotEq b=false:=by with_unfolding_all rfl):VE X (.Compare a [.NotEq] [b] pos) (g2 neD ga gb):=v_cmp (zOY hu) zO1 ha hb hm
end
section
variable {κ:Type} [DecidableEq κ]
noncomputable def kget (kvs:List (κ × D)) (k:κ):Option D:=(kvs.find? fun kv=>decide (kv.1=k)).map (·.2)
noncomputable def kput (kvs:List (κ × D)) (k:κ) (v:D):List (κ × D) :=
 if (kvs.any fun kv=>decide (kv.1=k))=true then kvs.map (fun kv=>if kv.1=k then (kv.1,v) else kv) else kvs++[(k,v)]
end
noncomputable def toKey:D→Option Key
 | .int i=>some (.inl i)
 | .str x=>some (.inr x)
 | _=>none
noncomputable def zA1:List D→Option (List Int)
 | []=>some []
 | .int i::ds=>(zA1 ds).map (i::·)
 | _::_=>none
theorem zCM:∀ {ds:List D} {ns:List Int},zA1 ds=some ns→ds=ns.map D.int
 | [],_,h=>by rw [zA1] at h; cases h; rfl
 | .int i::ds,_,h=>by
  rw [zA1] at h
  obtain ⟨r,h1,h2⟩:=Option.map_eq_some_iff.mp h
  subst h2
  rw [zCM h1]; rfl
 | .non::_,_,h=>by simp [zA1] at h
 | .bl _::_,_,h=>by simp [zA1] at h
 | .str _::_,_,h=>by simp [zA1] at h
 | .tup _::_,_,h=>by simp [zA1] at h
 | .lst _::_,_,h=>by simp [zA1] at h
 | .dk _::_,_,h=>by simp [zA1] at h
 | .dt _::_,_,h=>by simp [zA1] at h
theorem zFH:∀ ns:List Int,zA1 (ns.map D.int)=some ns
 | []=>rfl
 | n::ns=>by rw [List.map_cons,zA1,zFH ns]; rfl
theorem zGA:∀ {a b:List Int},a.map (Sum.inl:Int→Key)=b.map Sum.inl→a=b
 | [],[],_=>rfl
 | [],_::_,h=>by simp at h
 | _::_,[],h=>by simp at h
 | x::a,y::b,h=>by
  rw [List.map_cons,List.map_cons] at h
  injection h with h1 h2
  injection h1 with h1
  rw [h1,zGA h2]
section
variable {K:PySem.W.Frag} {F H:Hp}
theorem RepK.length:∀ {vs:List (Key × V)} {ds:List (Key × D)},RepK K F vs ds→vs.length=ds.length
 | _,_,.nil=>rfl
 | _,_,.cons _ r=>by rw [List.length_cons,List.length_cons,r.length]
theorem RepT.length:∀ {vs:List (List Key × V)} {ds:List (List Int × D)},RepT K F vs ds→vs.length=ds.length
 | _,_,.nil=>rfl
 | _,_,.cons _ r=>by rw [List.length_cons,List.length_cons,r.length]
noncomputable def OpR1 (K:PySem.W.Frag) (F:Hp):Option V→Option D→Prop
 | some v,some d=>Rep K F v d
 | none,none=>True
 | _,_=>False
theorem RepK.get (k:Key):∀ {vs:List (Key × V)} {ds:List (Key × D)},RepK K F vs ds→OpR1 K F (valV vs k) (kget ds k)
 | _,_,.nil=>trivial
 | _,_,.cons (k:=k') (v:=v) (d:=d) (vs:=vs) (ds:=ds) h r=>by
  by_cases e:k'=k
  ·have e1:valV ((k',v)::vs) k=some v:=by simp [valV,e]
   have e2:kget ((k',d)::ds) k=some d:=by simp [kget,e]
   rw [e1,e2]; exact h
  ·have e1:valV ((k',v)::vs) k=valV vs k:=by simp [valV,e]
   have e2:kget ((k',d)::ds) k=kget ds k:=by simp [kget,e]
   rw [e1,e2]; exact RepK.get k r
theorem RepT.get (k:List Int):∀ {vs:List (List Key × V)} {ds:List (List Int × D)},RepT K F vs ds→OpR1 K F (valV vs (k.map Sum.inl)) (kget ds k)
 | _,_,.nil=>trivial
 | _,_,.cons (k:=k') (v:=v) (d:=d) (vs:=vs) (ds:=ds) h r=>by
  by_cases e:k'=k
  ·have e1:valV ((k'.map Sum.inl,v)::vs) (k.map Sum.inl)=some v:=by simp [valV,e]
   have e2:kget ((k',d)::ds) k=some d:=by simp [kget,e]
   rw [e1,e2]; exact h
  ·have e':¬ k'.map (Sum.inl:Int→Key)=k.map Sum.inl:=fun z=>e (zGA z)
   have e1:valV ((k'.map Sum.inl,v)::vs) (k.map Sum.inl)=valV vs (k.map Sum.inl):=by simp [valV,e']
   have e2:kget ((k',d)::ds) k=kget ds k:=by simp [kget,e]
   rw [e1,e2]; exact RepT.get k r
theorem OpR1.isSome {o:Option V} {p:Option D} (h:OpR1 K F o p):o.isSome=p.isSome:=by
 cases o <;> cases p <;> first | rfl | exact h.elim
theorem OpR1.some_of {o:Option V} {d:D} (h:OpR1 K F o (some d)):∃ v,o=some v∧Rep K F v d:=by
 cases o with
 | none=>exact h.elim
 | some v=>exact ⟨v,rfl,h⟩
theorem OpR1.none_of {o:Option V} (h:OpR1 K F o none):o=none:=by
 cases o with
 | none=>rfl
 | some v=>exact h.elim
noncomputable def dgetD:D→D→Option (Option D)
 | .dk kvs,k=>(toKey k).map (kget kvs)
 | .dt kvs,.tup ks=>(zA1 ks).map (kget kvs)
 | _,_=>none
theorem Rep.dget {v u:V} {x y:D} {o:Option D} (s:Sub F H) (r1:Rep K F v x) (r2:Rep K F u y) (h:dgetD x y=some o):∃ a ov,v=.ref a∧DGet H a u ov∧OpR1 K F ov o:=by
 cases x with
 | dk kvs =>
  obtain ⟨k,h1,h2⟩:=Option.map_eq_some_iff.mp (show (toKey y).map (kget kvs)=some o from h)
  subst h2
  cases r1 with
  | dk hr r =>
   refine ⟨_,_,rfl,.inl ⟨_,k,s.rd hr,?_,rfl⟩,r.get k⟩
   cases y <;> first | cases h1 | skip
   ·cases r2; rfl
   ·cases r2; rfl
 | dt kvs =>
  cases y with
  | tup ks =>
   obtain ⟨ns,h1,h2⟩:=Option.map_eq_some_iff.mp (show (zA1 ks).map (kget kvs)=some o from h)
   subst h2
   have:=zCM h1
   subst this
   cases r1 with
   | dt hr r =>
    generalize hk:ns.map D.int=kk at r2
    cases r2 with
    | tup hb rb =>
     subst hk
     have:=rb.vint
     subst this
     refine ⟨_,_,rfl,.inr ⟨_,ns.map Sum.inl,_,s.rd hr,rfl,?_,rfl⟩,r.get ns⟩
     rw [List.map_map]
     exact s _ _ hb
    | @tupK a xs hb nb =>
     cases xs with
     | nil=>exact absurd rfl nb
     | cons x xs =>
      cases ns with
      | nil=>cases hk
      | cons n ns=>cases hk
  | _=>cases h
 | _=>cases h
end
noncomputable def inD (x y:D):Out D:=match y with
 | .lst ds=>match D.pys ds,x.py with
  | some ps,some p=>if p.depth≤60 then .ok (.bl (ps.any fun d=>PyData.eqv d p)) else .bad
  | _,_=>.bad
 | .tup ds=>match D.pys ds,x.py with
  | some ps,some p=>if p.depth≤60 then .ok (.bl (ps.any fun d=>PyData.eqv d p)) else .bad
  | _,_=>.bad
 | y=>match dgetD y x with
  | some o=>.ok (.bl o.isSome)
  | none=>.bad
noncomputable def zEJ (x y:D):Out D:=(inD x y).bind fun d=>match d with | .bl b=>.ok (.bl (!b)) | _=>.bad
section
variable {X:Cx} {K:PySem.W.Frag} {F H:Hp} {a b c e:Expr} {ga gb ge:G} {pos:Pos}
noncomputable def rDIn (neg:Bool):R2:=fun x y H Q=>∃ a o,y=.ref a∧DGet H a x o∧Q (.bl (if neg then !o.isSome else o.isSome)) H
theorem zHG (hu:X.A.units+64<cLine):OpR X (compareOp .In) (rDIn false):=fun pins s σ H x y v u Q I rx ry h=>by
 obtain ⟨a,o,rfl,g,q⟩:=h
 cases ry
 exact d_in (by omega) I g rx fun s3 I3=>⟨.bl _,H,I3,rfl,q⟩
theorem zHH (hu:X.A.units+64<cLine):OpR X (compareOp .NotIn) (rDIn true):=fun pins s σ H x y v u Q I rx ry h=>by
 obtain ⟨a,o,rfl,g,q⟩:=h
 cases ry
 exact zPW (by omega) I g rx fun s3 I3=>⟨.bl _,H,I3,rfl,q⟩
theorem zL2 (neg:Bool) {f:D→D→Out D} (hf:∀ x y d,f x y=.ok d→∃ b,inD x y=.ok (.bl b)∧d=.bl (if neg then !b else b)):OpS K (fun x y H Q=>rInD K neg x y H Q∨rDIn neg x y H Q) f:=fun v u x y F H d Q s r1 r2 h k=>by
 obtain ⟨b,hi,rfl⟩:=hf x y d h
 have seq:∀ ds p (sq:SqL K H p ds∨SqT K H p ds) (xs:List D),Reps K F ds xs→u=.ref p→(match D.pys xs,x.py with
   | some ps,some p=>if p.depth≤60 then Out.ok (D.bl (ps.any fun d=>PyData.eqv d p)) else .bad
   | _,_=>.bad)=.ok (.bl b)→rInD K neg v u H Q:=fun ds p sq xs rr eu hh=>by
  split at hh
  ·rename_i ps q e1 e2
   split at hh
   ·rename_i hd
    cases hh
    exact ⟨p,ds,ps,q,eu,sq,rr.dv s _ e1,r1.dv s _ e2,hd,k _ F H (.refl s) (.bl _)⟩
   ·cases hh
  ·cases hh
 have dic:(match dgetD y x with | some o=>Out.ok (D.bl o.isSome) | none=>.bad)=.ok (.bl b)→rDIn neg v u H Q:=fun hh=>by
  split at hh
  ·rename_i o eo
   cases hh
   obtain ⟨a,ov,rfl,g,ro⟩:=Rep.dget s r2 r1 eo
   refine ⟨a,ov,rfl,g,?_⟩
   rw [ro.isSome]
   exact k _ F H (.refl s) (.bl _)
  ·cases hh
 cases y with
 | lst ds =>
  obtain ⟨p,vs,rfl,hr,rr⟩:=r2.isRefL
  exact .inl (seq vs p (.inl (hr.imp s.rd id)) ds rr rfl hi)
 | tup ds =>
  obtain ⟨p,vs,rfl,rr,sq⟩:=r2.tupSq
  exact .inl (seq vs p (.inr (sq F H (.refl _) s)) ds rr rfl hi)
 | _=>exact .inr (dic hi)
theorem zO2 {x y d:D} (h:inD x y=.ok d):∃ b,d=.bl b:=by
 unfold inD at h
 split at h
 ·split at h
  ·split at h
   ·cases h; exact ⟨_,rfl⟩
   ·cases h
  ·cases h
 ·split at h
  ·split at h
   ·cases h; exact ⟨_,rfl⟩
   ·cases h
  ·cases h
 ·split at h
  ·cases h; exact ⟨_,rfl⟩
  ·cases h
theorem zO3:OpS K (fun x y H Q=>rInD K false x y H Q∨rDIn false x y H Q) inD:=zL2 false fun x y d h=>by
 obtain ⟨b,rfl⟩:=zO2 h
 exact ⟨b,h,rfl⟩
theorem zL3:OpS K (fun x y H Q=>rInD K true x y H Q∨rDIn true x y H Q) zEJ:=zL2 true fun x y d h=>by
 obtain ⟨d',h1,h2⟩:=Out.bind_ok h
 obtain ⟨b,rfl⟩:=zO2 h1
 cases h2
 exact ⟨b,h1,rfl⟩
theorem vt_in (hu:X.A.units+64<cLine) (ha:VE X a ga) (hb:VE X b gb) (hm:behindInMarks .In b=false:=by with_unfolding_all rfl):VT X (.Compare a [.In] [b] pos) (gB (g2 inD ga gb)):=zDS ((zOZ hu).or (zHG hu)) zO3 ha hb hm
theorem v_in (hu:X.A.units+64<cLine) (ha:VE X a ga) (hb:VE X b gb) (hm:behindInMarks .In b=false:=by with_unfolding_all rfl):VE X (.Compare a [.In] [b] pos) (g2 inD ga gb):=v_cmp ((zOZ hu).or (zHG hu)) zO3 ha hb hm
theorem zNU (hu:X.A.units+64<cLine) (ha:VE X a ga) (hb:VE X b gb) (hm:behindInMarks .NotIn b=false:=by with_unfolding_all rfl):VT X (.Compare a [.NotIn] [b] pos) (gB (g2 zEJ ga gb)):=zDS ((zLK hu).or (zHH hu)) zL3 ha hb hm
noncomputable def isND (x y:D):Out D:=match y with
 | .non=>match x with
  | .non=>.ok (.bl true)
  | _=>.ok (.bl false)
 | _=>.bad
noncomputable def notND (x y:D):Out D:=match y with
 | .non=>match x with
  | .non=>.ok (.bl false)
  | _=>.ok (.bl true)
 | _=>.bad
theorem zQH:OpS K (fun x y H Q=>y=.non∧Q (.bl (decide (x=.non))) H) isND:=fun v u x y F H d Q s r1 r2 hf k=>by
 cases y with
 | non =>
  cases r2
  refine ⟨rfl,k _ F H (.refl s) ?_⟩
  cases x <;> cases r1 <;> cases hf <;> exact .bl _
 | _=>cases hf
theorem zNV:OpS K (fun x y H Q=>y=.non∧Q (.bl (!decide (x=.non))) H) notND:=fun v u x y F H d Q s r1 r2 hf k=>by
 cases y with
 | non =>
  cases r2
  refine ⟨rfl,k _ F H (.refl s) ?_⟩
  cases x <;> cases r1 <;> cases hf <;> exact .bl _
 | _=>cases hf
theorem zSV (ha:VE X a ga) (hb:VE X b gb) (hm:behindInMarks .Is b=false:=by with_unfolding_all rfl):VT X (.Compare a [.Is] [b] pos) (gB (g2 isND ga gb)):=zDS zR5 zQH ha hb hm
theorem zQI (ha:VE X a ga) (hb:VE X b gb) (hm:behindInMarks .IsNot b=false:=by with_unfolding_all rfl):VT X (.Compare a [.IsNot] [b] pos) (gB (g2 notND ga gb)):=zDS zPO zNV ha hb hm
noncomputable def ltD (x y:D):Out D:=match x,y with
 | .int i,.int j=>.ok (.bl (decide (i<j)))
 | .tup xs,.tup ys=>match zA1 xs,zA1 ys with
  | some ns,some ms=>.ok (.bl (HT.lexLt ns ms))
  | _,_=>.bad
 | _,_=>.bad
theorem Rep.intsT {v:V} {ds:List D} {ns:List Int} (s:Sub F H) (r:Rep K F v (.tup ds)) (h:zA1 ds=some ns):∃ a,v=.ref a∧SqT K H a (ns.map V.int):=by
 have:=zCM h
 subst this
 obtain ⟨a,vs,rfl,rr,sq⟩:=r.tupSq
 have:=rr.vint
 subst this
 exact ⟨a,rfl,sq F H (.refl _) s⟩
theorem zL4:OpS K (fun x y H Q=>rI0 (fun i j=>.bl (decide (i<j))) x y H Q∨rLtT K x y H Q) ltD:=fun v u x y F H d Q s r1 r2 hf k=>by
 unfold ltD at hf
 split at hf
 ·cases hf; cases r1; cases r2
  exact .inl ⟨_,_,rfl,rfl,k _ F H (.refl s) (.bl _)⟩
 ·split at hf
  ·rename_i e1 e2
   cases hf
   obtain ⟨a,rfl,h1⟩:=r1.intsT s e1
   obtain ⟨b,rfl,h2⟩:=r2.intsT s e2
   exact .inr ⟨a,b,_,_,rfl,rfl,h1,h2,k _ F H (.refl s) (.bl _)⟩
  ·cases hf
 ·cases hf
noncomputable def cmpD (p:Int→Int→Bool) (x y:D):Out D:=match x,y with
 | .int i,.int j=>.ok (.bl (p i j))
 | _,_=>.bad
theorem zEK (p:Int→Int→Bool):OpS K (rI0 fun i j=>.bl (p i j)) (cmpD p):=fun v u x y F H d Q s r1 r2 hf k=>by
 unfold cmpD at hf
 split at hf
 ·cases hf; cases r1; cases r2
  exact ⟨_,_,rfl,rfl,k _ F H (.refl s) (.bl _)⟩
 ·cases hf
noncomputable abbrev leD:=cmpD fun i j=>decide (i≤j)
noncomputable abbrev gtD:=cmpD fun i j=>decide (j<i)
noncomputable abbrev geD:=cmpD fun i j=>decide (j≤i)
theorem vt_lt (hu:X.A.units+64<cLine) (ha:VE X a ga) (hb:VE X b gb) (hm:behindInMarks .Lt b=false:=by with_unfolding_all rfl):VT X (.Compare a [.Lt] [b] pos) (gB (g2 ltD ga gb)):=zDS (op_lt.or (zK3 (by omega))) zL4 ha hb hm
theorem v_lt (hu:X.A.units+64<cLine) (ha:VE X a ga) (hb:VE X b gb) (hm:behindInMarks .Lt b=false:=by with_unfolding_all rfl):VE X (.Compare a [.Lt] [b] pos) (g2 ltD ga gb):=v_cmp (op_lt.or (zK3 (by omega))) zL4 ha hb hm
theorem vt_gt (ha:VE X a ga) (hb:VE X b gb) (hm:behindInMarks .Gt b=false:=by with_unfolding_all rfl):VT X (.Compare a [.Gt] [b] pos) (gB (g2 gtD ga gb)):=zDS op_gt (zEK _) ha hb hm
theorem vt_ge (ha:VE X a ga) (hb:VE X b gb) (hm:behindInMarks .GtE b=false:=by with_unfolding_all rfl):VT X (.Compare a [.GtE] [b] pos) (gB (g2 geD ga gb)):=zDS op_ge (zEK _) ha hb hm
noncomputable def zDT (f f':D→D→Out D) (ga gb gc:G):G:=fun E=>(ga E).bind fun p=>(gb p.2).bind fun q=>(f p.1 q.1).bind fun d=>match d with
 | .bl true=>(gc q.2).bind fun r=>(f' q.1 r.1).bind fun d'=>.ok (d',r.2)
 | .bl false=>.ok (.bl false,q.2)
 | _=>.bad
end
end L2
namespace L2
open PySem PySem.Spec PyProof.Rows
theorem zGB {h h':Heap} {it t:Addr} {i:Nat} (x:h.IsListIter it t i) (k:∀ o,h.get? it=some o→h'.get? it=some o):h'.IsListIter it t i:=let ⟨o,e,r⟩:=x; ⟨o,k o e,r⟩
theorem zGC {h h':Heap} {a t l:Addr} {i:Nat} (k:h.IsListIter t l i) (hs:Heap.SameBut a h h') (ne:t≠a):h'.IsListIter t l i:=zGB k fun o e=>hs.extBut _ _ ne e
theorem FpOk.offL {X:Cx} {pins:List (Addr × Obj)} {σ:St} {H:Hp} {s:Shared} {a:Addr} {fp:List Addr} {xs:List V} (I:Inv X pins σ H s) (hf:∀ b∈fp,FpOk X pins H b) (h:SqL X.K H a xs):a∉fp:=fun z=>by
 obtain ⟨f0,f1,f2,f3,f4,f5⟩:=hf a z
 rcases h with h | ⟨o,its,n,hk,_⟩
 ·rcases h with h | ⟨o,h⟩
  ·rw [f0] at h; cases h
  ·rw [f0] at h; cases h
 ·have hb:=I.ok.mod.kin a o hk
  rcases f3 with f3 | f3
  ·exact I.ok.noex a o hb f3
  ·exact absurd (Nat.lt_of_lt_of_le (Heap.lt_size hb) I.ok.bsz) (Nat.not_lt.mpr f3)
section
variable {prog:Program} {w:World} {A:Around} {E:Value→Shared→Prop} {s:Shared}
structure EnStL (h:Heap) (n l:Addr) (i:Nat):Prop where
 eo:∃ f0 f1 old,IsEn h n f0 f1 i old∧F0 f0
 k1:h.IsListIter n l i
theorem EnStL.keep {h h':Heap} {n l:Addr} {i:Nat} (z:EnStL h n l i) (k:∀ b∈[n,n+1],∀ o,h.get? b=some o→h'.get? b=some o):EnStL h' n l i:=by
 obtain ⟨f0,f1,old,e,r⟩:=z.eo
 exact ⟨⟨f0,f1,old,k _ (by simp) _ e,r⟩,zGB z.k1 (k _ (by simp))⟩
theorem zNW {n l:Addr} {i:Nat} {xs:Array Value} {x:Value} {Q:Option Value→Shared→Prop} (z:EnStL s.heap n l i) (o1:l≠n) (o2:l≠n+1) (hl:s.heap.IsList l xs) (hx:xs[i]?=some x)
  (hQ:∀ h' t,EnStL h' n l (i+1)→IsPair h' s.heap.objs.size (.int i t) x→h'.objs.size=s.heap.objs.size+1→(∀ b o,b≠n→b≠n+1→s.heap.get? b=some o→h'.get? b=some o)→Q (some (.ref s.heap.objs.size)) { s with heap:=h',toks:=s.toks+1 }) :
  wpAny (model prog w) A (pyNext (.ref (n+1))) Q E s:=by
 obtain ⟨f0,f1,old,he,hf⟩:=z.eo
 have k1:=z.k1
 have hT:s.TypeIs (.ref (n+1)) "enumerate":=⟨_,he,rfl⟩
 have d01:n≠n+1:=zB5 (by decide)
 unfold pyNext
 refine wpAny_bind (wpAny_attempt (wpAny_callSpecial?_slot (name:=Str.ofString "__next__") hT PySem.F.slot_enumerate_next (wpAny_call_entry PySem.F.slot_enumerate_next hT PySem.F.entry_enumerate_next ?_ (PySem.F.args_enumerate_next_1 _))))
 show wpAny _ _ (field (.ref (n+1)) 2 >>= _) _ _ _
 refine wpAny_bind (wpAny_field he rfl (x:=.ref n) rfl ?_)
 refine wpAny_bind (wpAny_nextOf_list_item k1 hl hx fun h₁ k₁ s₁=>?_)
 have e₁:IsEn h₁ n f0 f1 i old:=s₁.extBut _ _ d01.symm he
 show wpAny _ _ (field (.ref (n+1)) 3 >>= _) _ _ _
 refine wpAny_bind (wpAny_field e₁ rfl (x:=rawInt i) rfl ?_)
 show wpAny _ _ (field (.ref (n+1)) 4 >>= _) _ _ _
 refine wpAny_bind (wpAny_field e₁ rfl (x:=.none) rfl ?_)
 show wpAny _ _ (mkInt i >>= _) _ _ _
 refine wpAny_bind (wpAny_mkInt ?_)
 show wpAny _ _ (setField (.ref (n+1)) 3 (rawInt ((i:Int)+1)) >>= _) _ _ _
 refine wpAny_bind (wpAny_setField_rec e₁ (by simp) fun h₂ e₂ s₂=>?_)
 replace e₂:IsEn h₂ n f0 f1 ((i:Int)+1) old:=e₂
 replace s₂:Heap.SameBut (n+1) h₁ h₂:=s₂
 show wpAny _ _ (setField (.ref (n+1)) 4 .none >>= _) _ _ _
 refine wpAny_bind (wpAny_setField_rec e₂ (by simp) fun h₃ e₃ s₃=>?_)
 replace e₃:IsEn h₃ n f0 f1 ((i:Int)+1) old:=e₃
 replace s₃:Heap.SameBut (n+1) h₂ h₃:=s₃
 refine wpAny_bind (wpAny_newTuple (items:=[.int i s.toks,x]) ?_)
 have hsz:h₃.objs.size=s.heap.objs.size:=by rw [s₃.1,s₂.1,s₁.1]
 have e₄:IsEn (h₃.push { cls:=.type "tuple",data:=.seq #[.int i s.toks,x] }) n f0 f1 ((i:Int)+1) old:=Heap.get?_push_of_some _ e₃
 have p₄:IsPair (h₃.push { cls:=.type "tuple",data:=.seq #[.int i s.toks,x] }) s.heap.objs.size (.int i s.toks) x:=by rw [← hsz]; exact Heap.get?_push_size _ rfl
 have z₄:(h₃.push { cls:=.type "tuple",data:=.seq #[.int i s.toks,x] }).objs.size=s.heap.objs.size+1:=by rw [Heap.size_push,hsz]
 have q₄:∀ b o,b≠n→b≠n+1→s.heap.get? b=some o→(h₃.push { cls:=.type "tuple",data:=.seq #[.int i s.toks,x] }).get? b=some o:=fun b o b1 b2 e=>Heap.get?_push_of_some _ (s₃.extBut b o b2 (s₂.extBut b o b2 (s₁.extBut b o b1 e)))
 have k₄:(h₃.push { cls:=.type "tuple",data:=.seq #[.int i s.toks,x] }).IsListIter n l (i+1):=zGB (zGC (zGC k₁ s₂ d01) s₃ d01) fun o e=>Heap.get?_push_of_some _ e
 show wpAny _ _ (Builtin.SmallTypes.ownedTupleIsFree (.ref (n+1)) >>= _) _ _ { s with heap:=h₃.push { cls:=.type "tuple",data:=.seq #[.int i s.toks,x] },toks:=s.toks+1 }
 have elt:n+1<s.heap.objs.size:=Heap.lt_size he
 rw [show (Value.ref h₃.objs.size)=Value.ref s.heap.objs.size by rw [hsz]]
 generalize h₃.push { cls:=.type "tuple",data:=.seq #[.int i s.toks,x] }=h₄ at e₄ p₄ z₄ q₄ k₄ ⊢
 refine wpAny_bind (zLN (s:={ s with heap:=h₄,toks:=s.toks+1 }) e₄ hf fun b h₅ g1 e₅ s₅=>?_)
 replace s₅:Heap.SameBut (n+1) h₄ h₅:=s₅
 have k₅:=zGC k₄ s₅ d01
 have p₅:IsPair h₅ s.heap.objs.size (.int i s.toks) x:=s₅.extBut _ _ (Nat.ne_of_gt elt) p₄
 have q₅:∀ b o,b≠n→b≠n+1→s.heap.get? b=some o→h₅.get? b=some o:=fun b o b1 b2 e=>s₅.extBut b o b2 (q₄ b o b1 b2 e)
 cases b with
 | false =>
  simp only [Bool.false_eq_true,if_false]
  exact wpAny_pure ⟨_,rfl,wpAny_pure (hQ h₅ _ ⟨⟨_,_,_,e₅,hf⟩,k₅⟩ p₅ (s₅.1.trans z₄) q₅)⟩
 | true =>
  simp only [if_true]
  refine wpAny_bind (wpAny_rule ?_)
  refine wpAny_bind (wpAny_field e₅ rfl (x:=old) rfl ?_)
  refine wpAny_bind (wpAny_setField_rec e₅ (by simp) fun h₆ e₆ s₆=>?_)
  replace e₆:IsEn h₆ n f0 g1 ((i:Int)+1) x:=e₆
  replace s₆:Heap.SameBut (n+1) h₅ h₆:=s₆
  refine wpAny_bind ?_
  unfold Builtin.SmallTypes.ownedTupleHandOut
  refine wpAny_bind (wpAny_setField_rec e₆ (by simp) fun h₇ e₇ s₇=>?_)
  replace e₇:IsEn h₇ n (rawInt s.heap.objs.size) g1 ((i:Int)+1) x:=e₇
  replace s₇:Heap.SameBut (n+1) h₆ h₇:=s₇
  refine wpAny_setField_rec e₇ (by simp) fun h₈ e₈ s₈=>?_
  replace e₈:IsEn h₈ n (rawInt s.heap.objs.size) false ((i:Int)+1) x:=e₈
  replace s₈:Heap.SameBut (n+1) h₇ h₈:=s₈
  have up:∀ b o,b≠n+1→h₅.get? b=some o→h₈.get? b=some o:=fun b o hb e=>s₈.extBut b o hb (s₇.extBut b o hb (s₆.extBut b o hb e))
  exact wpAny_bind (wpAny_letGo (wpAny_pure ⟨_,rfl,wpAny_pure (hQ h₈ _ ⟨⟨_,_,_,e₈,.inr ⟨_,rfl⟩⟩,zGB k₅ fun o e=>up _ o d01 e⟩ (up _ _ (Nat.ne_of_gt elt) p₅) (s₈.1.trans (s₇.1.trans (s₆.1.trans (s₅.1.trans z₄)))) fun b o b1 b2 e=>up b o b2 (q₅ b o b1 b2 e))⟩))
theorem zQJ {n l:Addr} {i:Nat} {xs:Array Value} {Q:Option Value→Shared→Prop} (hh:A.handled=none) (z:EnStL s.heap n l i) (hl:s.heap.IsList l xs) (hx:xs[i]?=none)
  (hQ:∀ h',(∀ b o,b≠n→s.heap.get? b=some o→h'.get? b=some o)→Q none { s with heap:=h' }):wpAny (model prog w) A (pyNext (.ref (n+1))) Q E s:=by
 obtain ⟨f0,f1,old,he,hf⟩:=z.eo
 have hT:s.TypeIs (.ref (n+1)) "enumerate":=⟨_,he,rfl⟩
 unfold pyNext
 refine wpAny_bind (wpAny_attempt (wpAny_callSpecial?_slot (name:=Str.ofString "__next__") hT PySem.F.slot_enumerate_next (wpAny_call_entry PySem.F.slot_enumerate_next hT PySem.F.entry_enumerate_next ?_ (PySem.F.args_enumerate_next_1 _))))
 show wpAny _ _ (field (.ref (n+1)) 2 >>= _) _ _ _
 refine wpAny_bind (wpAny_field he rfl (x:=.ref n) rfl ?_)
 refine wpAny_bind (wpAny_nextOf_list_end hh z.k1 hl hx fun h' e hs he'=>?_)
 obtain ⟨o,ho,hc⟩:=he'
 exact wpAny_bind (wpAny_isInstance (T:="StopIteration") (b:=true) ⟨o,ho,hc⟩ isSubtype_stop (wpAny_pure (hQ _ hs)))
theorem zSW {n l : Addr} {i : Nat} {tg : Expr} {u : Value} {Q : Unit → Shared → Prop} (z : EnStL s.heap n l i) (h : ∀ h', EnStL h' n l i → Heap.SameBut (n + 1) s.heap h' → Q () { s with heap := h' }) :
    wpAny (model prog w) A (letOwnedTupleGo tg (.ref (n + 1)) u) Q E s := by
  have hz := h s.heap z (zCK _ _)
  obtain ⟨f0, f1, old, e, hf⟩ := id z.eo
  unfold letOwnedTupleGo
  cases tg <;> first
    | exact wpAny_pure hz
    | (cases u <;> first
        | exact wpAny_pure hz
        | (refine wpAny_bind (wpAny_load e ?_)
           dsimp only
           split
           · refine wpAny_bind (wpAny_rule ?_)
             show wpAny _ _ (setField (.ref (n + 1)) 0 .none) Q E s
             exact wpAny_setField_rec e (by simp) fun h' hz' hs' => h h' ⟨⟨.none, f1, old, hz', .inl rfl⟩, zGC z.k1 hs' (zB5 (by decide))⟩ hs'
           · exact wpAny_pure hz))
theorem zJC {n l:Addr} {i:Nat} {Q:Value→Shared→Prop} (z:EnStL s.heap n l i) (h:Q (.ref (n+1)) s):wpAny (model prog w) A (pyIter (.ref (n+1))) Q E s:=by
 obtain ⟨f0,f1,old,e,hf⟩:=z.eo
 have hT:s.TypeIs (.ref (n+1)) "enumerate":=⟨_,e,rfl⟩
 refine wpAny_pyIter_slot hT PySem.F.slot_enumerate_iter (wpAny_call_entry PySem.F.slot_enumerate_iter hT PySem.F.entry_enumerate_iter ?_ (PySem.F.args_enumerate_iter_1 _))
 show wpAny _ _ (ret (.ref (n+1))) _ _ s
 exact wpAny_pure ⟨_,rfl,"enumerate",_,hT,PySem.F.slot_enumerate_next.lookup,h⟩
noncomputable abbrev eL1 (h:Heap) (l:Addr):Heap:=h.push { cls:=.type "list_iterator",data:=.fields #[.ref l,.int 0 0] }
noncomputable abbrev eL2 (h:Heap) (l:Addr):Heap:=(eL1 h l).push { cls:=.type "enumerate",data:=.fields #[.none,.bool false,.ref h.objs.size,rawInt 0,.none,.none] }
theorem zKA (l:Addr) (xs:Array Value) :
  Meets (Builtin.«enumerate.__new__» ⟨[.type "enumerate",.ref l],[]⟩) (fun _ R s=>s.heap.IsList l xs∧R (.ok (.ret (.ref (eL1 s.heap l).objs.size))) { s with heap:=eL2 s.heap l }) :=
 .of_wp fun prog w A R s h=>by
  obtain ⟨hp,g,d,tk,os⟩:=s; obtain ⟨hl,h⟩:=h
  have hsub:=sub_enumerate
  have hL:Heap.IsList (Shared.heap ⟨hp,g,d,tk,os⟩) l xs:=hl
  wp_walk
  refine wpAny_stack_any fun st=>wpAny_pure ?_
  split
  ·rename_i c _ _ _ _ _
   cases (c == Value.type "enumerate")
   ·wp_walk using wpAny_pyIter_list hL
    exact ⟨_,rfl,h⟩
   ·wp_walk using wpAny_pyIter_list hL
    exact ⟨_,rfl,h⟩
  ·wp_walk using wpAny_pyIter_list hL
   exact ⟨_,rfl,h⟩
theorem zL5 {l:Addr} {xs:Array Value} {Q:Value→Shared→Prop} (hl:s.heap.IsList l xs)
  (h:∀ h',EnStL h' s.heap.objs.size l 0→(∀ b o,s.heap.get? b=some o→h'.get? b=some o)→Q (.ref (s.heap.objs.size+1)) { s with heap:=h' }) :
  wpAny (model prog w) A (call (.type "enumerate") [.ref l]) Q E s:=by
 refine callType_new PySem.F.called_enumerate (by decide) (PySem.F.typeCall_enumerate_1 _) (PySem.F.newCall_enumerate_1 _) (fun obj=>PySem.F.args_object_init_2 obj _) PySem.F.entry_enumerate_new (zKA l xs) ⟨hl,?_⟩
 have z1:(eL1 s.heap l).objs.size=s.heap.objs.size+1:=Heap.size_push ..
 have g2:(eL2 s.heap l).get? (eL1 s.heap l).objs.size=some _:=Heap.get?_push_size _ rfl
 have g1:(eL2 s.heap l).get? s.heap.objs.size=some _:=Heap.get?_push_of_some _ (Heap.get?_push_size _ rfl)
 show _∧_
 rw [z1] at g2
 rw [z1]
 exact ⟨⟨_,g2,rfl⟩,h _ ⟨⟨.none,false,.none,g2,.inl rfl⟩,⟨_,g1,rfl,rfl⟩⟩ fun b o e=>Heap.get?_push_of_some _ (Heap.get?_push_of_some _ e)⟩
end
noncomputable def IteL (K:PySem.W.Frag) (a:Addr):It :=
 ⟨fun i H=>∃ xs x,SqL K H a xs∧xs[i]?=some x,fun i H v H'=>∃ p x,v=.ref p∧H p=none∧H'=upd H p (.tup [.int i,x])∧∀ xs,SqL K H a xs→xs[i]?=some x,fun i H=>∃ xs,SqL K H a xs∧xs.length≤i⟩
theorem zKB {P:Program} {w:World} {K:PySem.W.Frag} {tg:Expr} (a n:Addr):Turn P w K tg (IteL K a) [n,n+1] (n+1) (fun i h=>EnStL h n a i) where
 mem:=by simp
 obj:=fun i h st c hc=>by
  obtain ⟨f0,f1,old,e,_⟩:=st.eo
  obtain ⟨o0,e0,_,d0⟩:=st.k1
  simp only [List.mem_cons,List.not_mem_nil,or_false] at hc
  rcases hc with rfl | rfl
  ·exact ⟨_,e0,fun v z=>by rw [d0] at z; cases z⟩
  ·exact ⟨_,e,fun v z=>by have z':Data.fields _=Data.cell v:=z; cases z'⟩
 keep:=fun i h h' st k=>st.keep k
 item:=by
  intro X hP hw hK hc i pins s σ H E I hf st hg
  subst hP hw hK
  obtain ⟨xs,x,hq,hx⟩:=hg
  obtain ⟨its,rv,p,hz⟩:=I.list hq
  obtain ⟨u,hu,ru⟩:=rv.get hx
  have off:=FpOk.offL I hf hq
  simp only [List.mem_cons,List.not_mem_nil,or_false,not_or] at off
  refine zNW st off.1 off.2 (show s.heap.IsList a its.toArray from p.isList) (x:=u) (by simpa using hu) fun h' t st' hp hsz hk=>?_
  refine ⟨_,rfl,zSW (s:={ s with heap:=h',toks:=s.toks+1 }) st' fun h2 st2 hs2=>?_⟩
  obtain ⟨f0,f1,old,e4,_⟩:=id st.eo
  have hlt:∀ c∈[n,n+1],c<s.heap.objs.size:=fun c hc=>lt2 hc (Heap.lt_size e4)
  have I1:Inv X pins σ (upd H s.heap.objs.size (.tup [.int i,x])) { s with heap:=s.heap.push { cls:=.type "tuple",data:=.seq #[.int i t,u] } } :=
   I.laid (t':=s.toks) (fun b u e=>Heap.get?_push_of_some _ e) (Nat.le_refl _) ⟨by show 2≤sizeLine; decide,[.int i t,u],.cons ⟨t,rfl⟩ (.cons ru .nil),⟨_,Heap.get?_push_size _ rfl,rfl,rfl,0,rfl⟩⟩
  have hf1:∀ c∈[n,n+1],FpOk X pins (upd H s.heap.objs.size (.tup [.int i,x])) c:=fun c hc=>⟨by rw [zAF (Nat.ne_of_lt (hlt c hc))]; exact (hf c hc).1,(hf c hc).2⟩
  have I2:Inv X pins σ (upd H s.heap.objs.size (.tup [.int i,x])) { s with heap:=h2,toks:=s.toks+1 }:=I1.turnedL (t':=s.toks+1) hf1 fun c o hc e=>by
   simp only [List.mem_cons,List.not_mem_nil,or_false,not_or] at hc
   refine hs2.extBut _ _ hc.2 ?_
   by_cases hcs:c=s.heap.objs.size
   ·subst hcs
    rw [Heap.get?_push_size _ rfl] at e
    cases e
    exact hp
   ·have e':s.heap.get? c=some o:=by
     rw [Heap.get?_push_ne _ _ _ hcs] at e
     exact e
    exact hk c o hc.1 hc.2 e'
  exact ⟨.ref s.heap.objs.size,_,I2,rfl,⟨_,x,rfl,I.fresh,rfl,fun zs hz=>by rw [I.list_inj hz hq]; exact hx⟩,st2,fun c hc=>(hf1 c hc).1⟩
 done:=by
  intro X hP hw hK hc i pins s σ H E I hf st hg
  subst hP hw hK
  obtain ⟨xs,hq,hx⟩:=hg
  obtain ⟨its,rv,p,hz⟩:=I.list hq
  have hl:=rv.length
  refine zQJ (I.ok.hd hc) st (show s.heap.IsList a its.toArray from p.isList) (by simp; omega) fun h' hk=>⟨rfl,I.turnedL (t':=s.toks) hf fun c o hc e=>?_⟩
  simp only [List.mem_cons,List.not_mem_nil,or_false,not_or] at hc
  exact hk c o hc.1 e
 self:=fun _ _ _ _ _ st h=>zJC st h
section
variable {X:Cx} {tg:Expr}
noncomputable def zSX (K:PySem.W.Frag) (ta:TA):TI:=fun σ H R=>ta σ H fun vs H1=>∃ a,vs=[.ref a]∧(∃ xs,SqL K H1 a xs)∧R (IteL K a) H1
theorem zNX {a:Expr} {ta:TA} {p pos:Pos} (hg:Gl X "enumerate") (hm:X.mg "enumerate"=none) (ha:PA X [a] ta) (hs:starEach [a] X.env=[(false,eval a X.env)]:=by rfl):PI X tg (.Call (.Name "enumerate" p) [a] [] pos) (zSX X.K ta):=by
 intro pins s σ H R I h
 refine Call_ (zD6 I hg hm (u:=.type "enumerate") (by decide +kernel) (PyProof.Rows.callWith_type1 (thn (ha pos pins s σ H _ I h) fun us s1 ⟨vs,H1,I1,r1,q1⟩=>?_) hs rfl))
 obtain ⟨c,e,⟨xs,hq1⟩,q⟩:=q1
 subst e
 cases r1 with
 | cons r rr =>
  cases rr
  cases r
  obtain ⟨its1,rv1,p1,hz1⟩:=I1.list hq1
  refine zL5 (show s1.heap.IsList c its1.toArray from p1.isList) fun h' st k=>?_
  refine zJC (s:={ s1 with heap:=h' }) st ?_
  exact ⟨s1.heap.objs.size+1,[s1.heap.objs.size,s1.heap.objs.size+1],_,_,H1,rfl,I1.kept (t':=s1.toks) k,zKB c _,st,fun b hb=>I1.fpOk (ge2 hb) (I1.hok.fresh (ge2 hb)),q⟩
end
end L2
namespace L2
open PySem PySem.Spec PyProof.Rows
section
variable {X:Cx} {K:PySem.W.Frag} {H₀ F H:Hp} {a b c e:Expr} {es:List Expr} {ga gb gc ge:G} {gs:List G} {pos p:Pos} {x:Str} {id T:String}
theorem zJD {r r':R2} {f f':D→D→Out D} (h1:OpS K r f) (h2:OpS K r' f') {σ:St} {Q:VK} (h:tV K H₀ (zDT f f' ga gb gc) σ H Q):zKW r r' (tV K H₀ ga) (tV K H₀ gb) (tV K H₀ gc) σ H Q:=by
 obtain ⟨τ,F,E,d,E',S,hg,k⟩:=h
 obtain ⟨p,ea,hg⟩:=Out.bind_ok hg
 obtain ⟨q,eb,hg⟩:=Out.bind_ok hg
 obtain ⟨z,ef,hg⟩:=Out.bind_ok hg
 refine ⟨τ,F,E,p.1,p.2,S,ea,fun v F1 H1 st1 S1 r1=>⟨τ,F1,p.2,q.1,q.2,S1,eb,fun u F2 H2 st2 S2 r2=>?_⟩⟩
 refine h1 v u p.1 q.1 F2 H2 z _ S2.sub (r1.le st2.le) r2 ef fun y F3 H3 n r3=>?_
 have S3:=S2.new n
 have st3:=(st1.trans st2).trans (n.stp (ow:=owA _ q.2))
 split at hg
 ·cases r3
  obtain ⟨w,ec,hg⟩:=Out.bind_ok hg
  obtain ⟨d',ef',hg⟩:=Out.bind_ok hg
  cases hg
  refine ⟨true,rfl,iteT ⟨τ,F3,q.2,w.1,w.2,S3,ec,fun w' F4 H4 st4 S4 r4=>?_⟩⟩
  exact h2 u w' q.1 w.1 F4 H4 d Q S4.sub ((r2.le n.1.le).le st4.le) r4 ef' fun y F5 H5 n5 r5=>k y F5 H5 ((st3.trans st4).trans n5.stp) (S4.new n5) r5
 ·cases r3
  cases hg
  exact ⟨false,rfl,iteF (k _ F3 H3 st3 S3 (.bl false))⟩
 ·cases hg
theorem zQK {op op':CmpOp} {r r':R2} {f f':D→D→Out D} (ho:OpR X (compareOp op) r) (h1:OpS X.K r f) (ho':OpR X (compareOp op') r') (h2:OpS X.K r' f') (ha:VE X a ga) (hb:VE X b gb) (hc:VE X c gc)
  (hm:lastMarks [op,op'] [b,c]=false:=by with_unfolding_all rfl):VE X (.Compare a [op,op'] [b,c] pos) (zDT f f' ga gb gc):=(zMZ ho ho' ha hb hc hm).imp fun _ _ _ h=>zJD h1 h2 h
theorem zNY {op op':CmpOp} {r r':R2} {f f':D→D→Out D} (ho:OpR X (compareOp op) r) (h1:OpS X.K r f) (ho':OpR X (compareOp op') r') (h2:OpS X.K r' f') (ha:VE X a ga) (hb:VE X b gb) (hc:VE X c gc)
  (hm:lastMarks [op,op'] [b,c]=false:=by with_unfolding_all rfl):VT X (.Compare a [op,op'] [b,c] pos) (gB (zDT f f' ga gb gc)):=(zM0 ho ho' ha hb hc hm).imp fun σ H Q h=>by
 obtain ⟨τ,F,E,b',E',S,hg,k⟩:=h
 obtain ⟨p,ea,hg⟩:=Out.bind_ok hg
 refine zJD h1 h2 ⟨τ,F,E,p.1,p.2,S,ea,fun v F1 H1 st1 S1 r1=>?_⟩
 split at hg
 ·rename_i b' eb
  cases hg
  rw [eb] at r1
  cases r1
  exact ⟨_,rfl,k F1 H1 st1 S1⟩
 ·cases hg
noncomputable def rCatR (K:PySem.W.Frag):R2:=fun x y H Q=>∃ l b xs zs,x=.ref l∧y=.ref b∧SqL K H l xs∧SqL K H b zs∧xs.length+zs.length≤sizeLine∧∀ p,H p=none→Q (.ref p) (upd H p (.lst (xs++zs)))
theorem op_catR:OpR X (binaryOp .Add) (rCatR X.K):=by
 intro pins s σ H x y v u Q I rx ry h
 obtain ⟨l,b,xs,zs,rfl,rfl,hH,hB,hz,q⟩:=h
 cases rx
 cases ry
 obtain ⟨its,r,pl,z⟩:=I.list hH
 obtain ⟨its2,r2,pl2,z2⟩:=I.list hB
 obtain ⟨⟨oc,od,oda,osl⟩,n,e,e1,e2,e3⟩:=pl
 obtain ⟨⟨oc',od',oda',osl'⟩,n',e',e1',e2',e3'⟩:=pl2
 dsimp only at e1 e2 e3 e1' e2' e3'
 subst e1 e2 e3 e1' e2' e3'
 have hl:=r.length
 have hl2:=r2.length
 refine concat_meets ⟨_,e,rfl⟩ ⟨_,e',rfl⟩ noFill_list_add seq_list_add F.slot_list_add F.entry_list_add (F.args_list_add_2 _ _) (list_addW l b its.toArray its2.toArray n n' none none osl osl' (by rw [List.size_toArray,List.size_toArray]; omega)) ⟨e,e',?_⟩
 have ea:its.toArray++its2.toArray=(its++its2).toArray:=by simp
 rw [ea]
 exact ⟨.ref _,_,I.lnew (t':=s.toks) (r.append r2) (by rw [List.length_append]; omega),rfl,q _ I.fresh⟩
noncomputable def rCatX (K:PySem.W.Frag):R2:=fun x y H Q=>∃ a b xs ys,x=.ref a∧y=.ref b∧SqT K H a xs∧SqT K H b ys∧xs.length+ys.length≤sizeLine∧(xs=[]→Q (.ref b) H)∧(ys=[]→Q (.ref a) H)∧∀ p,H p=none→Q (.ref p) (upd H p (.tup (xs++ys)))
theorem op_catX:OpR X (binaryOp .Add) (rCatX X.K):=by
 intro pins s σ H x y v u Q I rx ry h
 obtain ⟨a,b,xs,ys,rfl,rfl,ha,hb,hz,q1,q2,q3⟩:=h
 cases rx
 cases ry
 obtain ⟨its,r1,p1,_⟩:=I.tuple ha
 obtain ⟨its2,r2,p2,_⟩:=I.tuple hb
 refine zP6 p1 p2 (fun z=>⟨.ref b,H,I,rfl,q1 (r1.nil_iff.mp z)⟩) (fun _ z=>⟨.ref a,H,I,rfl,q2 (r2.nil_iff.mp z)⟩) (fun _ z=>?_) (by rw [← r1.length,← r2.length]; exact hz)
 exact ⟨.ref s.heap.objs.size,_,I.laid (t':=s.toks) (o:=.tup (xs++ys)) (fun b ob q=>Heap.get?_push_of_some _ q) (Nat.le_refl _) ⟨by rw [List.length_append]; exact hz,_,r1.append r2,IsTupP.new _ _⟩,rfl,q3 _ I.fresh⟩
theorem le4 {n:Nat} (h:n<10000):n≤sizeLine:=Nat.le_of_lt (zEG h)
noncomputable def addD (x y:D):Out D:=match x,y with
 | .int i,.int j=>.ok (.int (i+j))
 | .lst xs,.lst ys=>few (xs.length+ys.length) (.ok (.lst (xs++ys)))
 | .tup xs,.tup ys=>few (xs.length+ys.length) (.ok (.tup (xs++ys)))
 | .str s,.str t=>few (s.length+t.length) (.ok (.str (s++t)))
 | _,_=>.bad
noncomputable abbrev rAddA (K:PySem.W.Frag):R2:=fun x y H Q=>rI0 (fun i j=>.int (i+j)) x y H Q∨rCatR K x y H Q∨rCatX K x y H Q∨(∃ i j,x=.str i∧y=.str j∧i.length+j.length≤sizeLine∧Q (.str (i++j)) H)
theorem zQL:OpR X (binaryOp .Add) (rAddA X.K):=op_add.or (op_catR.or (op_catX.or zJ0))
theorem zQM:OpS K (rAddA K) addD:=fun v u x y F H d Q s r1 r2 hf k=>by
 unfold addD at hf
 split at hf
 ·cases hf; cases r1; cases r2
  exact .inl ⟨_,_,rfl,rfl,k _ F H (.refl s) (.int _)⟩
 ·obtain ⟨hl,hf⟩:=zB8 hf
  cases hf
  obtain ⟨a,vs,rfl,h1,h2⟩:=r1.isRefL
  obtain ⟨b,ws,rfl,h3,h4⟩:=r2.isRefL
  refine .inr (.inl ⟨a,b,vs,ws,rfl,rfl,h1.imp s.rd id,h3.imp s.rd id,by rw [h2.length,h4.length]; exact le4 hl,fun q hq=>?_⟩)
  have n:=New.laid (o:=.lst (vs++ws)) s hq
  exact k _ _ _ n (.lst (.inl (.inl zAC)) ((h2.append h4).le n.1.le))
 ·obtain ⟨hl,hf⟩:=zB8 hf
  cases hf
  obtain ⟨a,vs,rfl,h2,h1⟩:=r1.tupSq
  obtain ⟨b,ws,rfl,h4,h3⟩:=r2.tupSq
  refine .inr (.inr (.inl ⟨a,b,vs,ws,rfl,rfl,h1 F H (.refl _) s,h3 F H (.refl _) s,by rw [h2.length,h4.length]; exact le4 hl,fun z=>?_,fun z=>?_,fun q hq=>?_⟩))
  ·have:=h2.nil_iff.mp z
   subst this
   exact k _ F H (.refl s) r2
  ·have:=h4.nil_iff.mp z
   subst this
   rw [List.append_nil] at k
   exact k _ F H (.refl s) r1
  ·have n:=New.laid (o:=.tup (vs++ws)) s hq
   exact k _ _ _ n (.tup zAC ((h2.append h4).le n.1.le))
 ·obtain ⟨hl,hf⟩:=zB8 hf
  cases hf; cases r1; cases r2
  exact .inr (.inr (.inr ⟨_,_,rfl,rfl,le4 hl,k _ F H (.refl s) (.str _)⟩))
 ·cases hf
theorem v_add (ha:VE X a ga) (hb:VE X b gb):VE X (.BinOp a .Add b pos) (g2 addD ga gb):=v_op zQL zQM ha hb
noncomputable def subD (x y:D):Out D:=match x,y with
 | .int i,.int j=>.ok (.int (i - j))
 | _,_=>.bad
theorem zQN:OpS K (rI0 fun i j=>.int (i - j)) subD:=fun v u x y F H d Q s r1 r2 hf k=>by
 unfold subD at hf
 split at hf
 ·cases hf; cases r1; cases r2
  exact ⟨_,_,rfl,rfl,k _ F H (.refl s) (.int _)⟩
 ·cases hf
theorem v_sub (ha:VE X a ga) (hb:VE X b gb):VE X (.BinOp a .Sub b pos) (g2 subD ga gb):=v_op zR1 zQN ha hb
noncomputable def guard {α:Type} (c:Prop) [Decidable c] (y:Out α):Out α:=if c then y else .bad
theorem zBS {α:Type} {c:Prop} [Decidable c] {y:Out α} {z:α} (h:guard c y=.ok z):c∧y=.ok z:=by
 unfold guard at h
 split at h
 ·exact ⟨by assumption,h⟩
 ·cases h
noncomputable def zDK (i:Int):Prop:=-(2 ^ 64)<i∧i<2 ^ 64
instance (i:Int):Decidable (zDK i):=inferInstanceAs (Decidable (_∧_))
noncomputable def mulD (x y:D):Out D:=match x,y with
 | .int i,.int j=>guard (zDK i∨zDK j) (.ok (.int (i * j)))
 | _,_=>.bad
theorem zQO:OpS K (rI CMul fun i j=>.int (i * j)) mulD:=fun v u x y F H d Q s r1 r2 hf k=>by
 unfold mulD at hf
 split at hf
 ·obtain ⟨hc,hf⟩:=zBS hf
  cases hf; cases r1; cases r2
  exact ⟨_,_,rfl,rfl,hc,k _ F H (.refl s) (.int _)⟩
 ·cases hf
theorem v_mul (ha:VE X a ga) (hb:VE X b gb):VE X (.BinOp a .Mult b pos) (g2 mulD ga gb):=v_op zR2 zQO ha hb
noncomputable def fdivD (x y:D):Out D:=match x,y with
 | .int i,.int j=>guard (0<j∧j<1073741824) (.ok (.int (i / j)))
 | _,_=>.bad
theorem zNZ:OpS K (rI CDiv fun i j=>.int (i / j)) fdivD:=fun v u x y F H d Q s r1 r2 hf k=>by
 unfold fdivD at hf
 split at hf
 ·obtain ⟨hc,hf⟩:=zBS hf
  cases hf; cases r1; cases r2
  exact ⟨_,_,rfl,rfl,hc,k _ F H (.refl s) (.int _)⟩
 ·cases hf
theorem zO4 (ha:VE X a ga) (hb:VE X b gb):VE X (.BinOp a .FloorDiv b pos) (g2 fdivD ga gb):=v_op zPN zNZ ha hb
noncomputable def modD (x y:D):Out D:=match x,y with
 | .int i,.int j=>guard (0<j) (.ok (.int (i % j)))
 | _,_=>.bad
theorem zQP:OpS K (rI (fun _ j=>0<j) fun i j=>.int (i % j)) modD:=fun v u x y F H d Q s r1 r2 hf k=>by
 unfold modD at hf
 split at hf
 ·obtain ⟨hc,hf⟩:=zBS hf
  cases hf; cases r1; cases r2
  exact ⟨_,_,rfl,rfl,hc,k _ F H (.refl s) (.int _)⟩
 ·cases hf
theorem v_mod (ha:VE X a ga) (hb:VE X b gb):VE X (.BinOp a .Mod b pos) (g2 modD ga gb):=v_op zR3 zQP ha hb
noncomputable def powD (x y:D):Out D:=match x,y with
 | .int i,.int j=>guard (0≤j∧j≤1000000∧i.natAbs<2 ^ 64) (.ok (.int (i ^ j.toNat)))
 | _,_=>.bad
theorem zQQ:OpS K (rI CPow fun i j=>.int (i ^ j.toNat)) powD:=fun v u x y F H d Q s r1 r2 hf k=>by
 unfold powD at hf
 split at hf
 ·obtain ⟨hc,hf⟩:=zBS hf
  cases hf; cases r1; cases r2
  exact ⟨_,_,rfl,rfl,hc,k _ F H (.refl s) (.int _)⟩
 ·cases hf
theorem v_pow (ha:VE X a ga) (hb:VE X b gb):VE X (.BinOp a .Pow b pos) (g2 powD ga gb):=v_op zR4 zQQ ha hb
noncomputable def negD (x:D):Out D:=match x with
 | .int i=>.ok (.int (-i))
 | _=>.bad
noncomputable def repD (x y:D):Out D:=match x,y with
 | .lst xs,.int k=>guard (-(2 ^ 63)≤k∧k<2 ^ 63∧xs.length * k.toNat<10000) (.ok (.lst (List.replicate k.toNat xs).flatten))
 | _,_=>.bad
theorem f_rep {es:List Expr} {gs:List G} {lpos:Pos} (ha:VA X es gs) (hb:VE X b gb):FE X (.BinOp (.List es lpos) .Mult b pos) (g2 repD (gLst gs) gb):=(pe_op zSE (zKZ ha) hb).imp fun σ H Q h=>by
 obtain ⟨τ,F,E,d,E',S,hg,k⟩:=h
 obtain ⟨p,ea,hg⟩:=Out.bind_ok hg
 obtain ⟨q,eb,hg⟩:=Out.bind_ok hg
 obtain ⟨z,ef,hg⟩:=Out.bind_ok hg
 cases hg
 obtain ⟨p0,ea0,eq⟩:=Out.bind_ok ea
 obtain ⟨hl,eq⟩:=zB8 eq
 cases eq
 refine ⟨τ,F,E,p0.1,p0.2,S,ea0,fun vs F1 H1 s1 S1 r1=>⟨by rw [r1.length]; exact le4 hl,fun l hl0=>?_⟩⟩
 have n:=New.laid (o:=.lst vs) S1.sub hl0
 have S2:=S1.new n
 refine ⟨τ,_,p0.2,q.1,q.2,S2,eb,fun u F3 H3 s3 S3 r3=>?_⟩
 unfold repD at ef
 split at ef
 ·rename_i xs kk e1 e2
  obtain ⟨⟨g1,g2,g3⟩,ef⟩:=zBS ef
  cases ef
  cases e1
  rw [e2] at r3
  cases r3
  have hv:=r1.length
  have rl:Rd F3 l (.lst vs):=s3.le.rd (.inl zAC)
  have hH:H3 l=some (.lst vs):=by
   rcases rl with z | ⟨o,z⟩
   ·exact S3.sub _ _ z
   ·have:=s3.le l _ (zAC (H:=F1) (o:=.lst vs))
    rcases this with y | ⟨y,_⟩
    ·rw [z] at y; cases y
    ·exact y.elim
  refine ⟨l,kk,vs,rfl,rfl,hH,g1,g2,by rw [hv]; exact le4 g3,fun q' hq=>?_⟩
  have n2:=New.junk (H':=upd H3 q' (.lst (List.replicate kk.toNat vs).flatten)) S3.sub (Gr.new hq)
  have st:=((s1.trans (n.stp (ow:=owA σ p0.2))).trans s3).trans (n2.stp (ow:=owA σ q.2))
  exact k q' _ _ st (S3.new n2) (Sim.notF S3.sub hq) (((s1.trans (n.stp (ow:=owA σ p0.2))).trans s3).dom q' hq) ⟨_,zAC,((r1.le n.1.le).le s3.le).rep kk.toNat⟩ (S3.fresh hq)
 ·cases ef
theorem Reps.atI {vs:List V} {ds:List D} {i:Int} {d:D} (r:Reps K F vs ds) (h:L2.atI ds i=some d):∃ v,L2.atI vs i=some v∧Rep K F v d:=by
 unfold L2.atI at h ⊢
 rw [r.length]
 cases q:ixN ds.length i with
 | none=>rw [q] at h; cases h
 | some j =>
  rw [q] at h
  obtain ⟨v,h1,h2⟩:=r.get (show ds[j]?=some d from h)
  exact ⟨v,h1,h2⟩
noncomputable def ixD (x y:D):Out D:=match x,y with
 | .lst ds,.int i=>match L2.atI ds i with
  | some d=>.ok d
  | none=>.bad
 | .tup ds,.int i=>match L2.atI ds i with
  | some d=>.ok d
  | none=>.bad
 | .str z,.int i=>few z.length (match L2.atI z.cps.toList i with
  | some c=>.ok (.str ⟨#[c]⟩)
  | none=>.bad)
 | x,y=>match dgetD x y with
  | some (some d)=>.ok d
  | _=>.bad
noncomputable def zII:R2:=fun x y H Q=>∃ a v,x=.ref a∧DGet H a y (some v)∧Q v H
theorem zQR (hu:X.A.units+64<cLine):IxR X zII:=by
 intro value slice pins s σ H x y v u Q I rx ry h hs
 obtain ⟨a,w,rfl,g,q⟩:=h
 cases rx
 refine tail_any (zH6 I g) PySem.F.slot_dict_getitem.lookup (zK8 (A:=X.A) (by omega) I g ry fun w' s3 I3 rw'=>⟨w,H,I3,rw',q⟩) hs
theorem zSY:OpS K (fun x y H Q=>rIx K x y H Q∨zII x y H Q) ixD:=fun v u x y F H d Q s r1 r2 hf k=>by
 have dic:(match dgetD x y with | some (some d)=>Out.ok d | _=>.bad)=.ok d→zII v u H Q:=fun hh=>by
  split at hh
  ·rename_i d' eo
   cases hh
   obtain ⟨a,ov,rfl,g,ro⟩:=Rep.dget s r1 r2 eo
   obtain ⟨w,rfl,rw'⟩:=ro.some_of
   exact ⟨a,w,rfl,g,k _ F H (.refl s) rw'⟩
  ·cases hh
 unfold ixD at hf
 split at hf
 ·split at hf
  ·rename_i d' e
   cases hf
   obtain ⟨a,vs,rfl,h1,h2⟩:=r1.isRefL
   obtain ⟨w,h3,h4⟩:=h2.atI e
   cases r2
   exact .inl (.inl ⟨a,vs,_,w,rfl,rfl,h1.imp s.rd id,h3,k _ F H (.refl s) h4⟩)
  ·cases hf
 ·split at hf
  ·rename_i d' e
   cases hf
   obtain ⟨a,vs,rfl,h2,h1⟩:=r1.tupSq
   obtain ⟨w,h3,h4⟩:=h2.atI e
   cases r2
   exact .inl (.inr (.inl ⟨a,vs,_,w,rfl,rfl,h1 F H (.refl _) s,h3,k _ F H (.refl s) h4⟩))
  ·cases hf
 ·obtain ⟨hl,hf⟩:=zB8 hf
  split at hf
  ·rename_i c e
   cases hf
   cases r1; cases r2
   exact .inl (.inr (.inr ⟨_,_,c,rfl,rfl,le4 hl,e,k _ F H (.refl s) (.str _)⟩))
  ·cases hf
 ·exact .inr (dic hf)
theorem v_ix (hu:X.A.units+64<cLine) (ha:VE X a ga) (hb:VE X b gb) (hs:zK6 b:=by intro _ _; rfl):VE X (.Subscript a b pos) (g2 ixD ga gb):=(pe_ix (ix_seq.or (zQR hu)) ha hb hs).imp fun _ _ _ h=>tOp_v zSY h
noncomputable def cutA {α:Type} (xs:List α) (lo hi:Option Int):List α:=(xs.drop (HT.sIx xs.length 0 lo)).take (HT.sIx xs.length xs.length hi - HT.sIx xs.length 0 lo)
theorem Reps.cut {vs:List V} {ds:List D} (r:Reps K F vs ds) (lo hi:Option Int):Reps K F (cutV vs lo hi) (cutA ds lo hi):=by
 unfold cutV cutA
 rw [r.length]
 exact (r.drop _).take _
noncomputable def rSlX (K:PySem.W.Frag):V→Option Int→Option Int→Hp→VK→Prop:=fun x lo hi H Q=>∃ a xs,x=.ref a∧SqT K H a xs∧(cutV xs lo hi=xs→Q (.ref a) H)∧∀ p,H p=none→Q (.ref p) (upd H p (.tup (cutV xs lo hi)))
theorem sl_tupX:SlR X (rSlX X.K):=by
 intro pins s σ H x v vl vu lo hi sl Q I rx hs pl pu h
 obtain ⟨a,xs,rfl,hx,q1,q2⟩:=h
 by_cases hw:HT.sIx xs.length 0 lo=0∧HT.sIx xs.length xs.length hi=xs.length
 ·cases rx
  obtain ⟨its,r,ht,hz⟩:=I.tuple hx
  have hlen:its.toArray.size=xs.length:=by rw [List.size_toArray]; exact r.length.symm
  refine ⟨"tuple",_,PyProof.Rows.slot_tuple_getitem.lookup,ht.typeIs,?_⟩
  exact zC2 ht hs pl pu (by rw [hlen]; exact hw) ⟨.ref a,H,I,rfl,q1 (zLL hw)⟩
 ·exact zSA pins s σ H (.ref a) v vl vu lo hi sl Q I rx hs pl pu ⟨a,xs,rfl,hx,hw,q2⟩
noncomputable def gPart:Option G→Ev→Out (Option Int × Ev)
 | none,E=>.ok (none,E)
 | some g,E=>(g E).bind fun p=>match p.1 with | .int i=>.ok (some i,p.2) | _=>.bad
noncomputable def tPt (K:PySem.W.Frag) (H₀:Hp) (g:Option G):TO:=fun σ H Q=>∃ τ F E o E',Sim K H₀ τ F H σ E∧gPart g E=.ok (o,E')∧∀ F' H',Stp (owA σ E) F H F' H' (owA σ E')→Sim K H₀ τ F' H' σ E'→Q o H'
theorem PO.imp {oe:Option Expr} {t t':TO} (h:PO X oe t) (hi:∀ σ H Q,t' σ H Q→t σ H Q):PO X oe t':=fun pins s σ H Q I q=>h pins s σ H Q I (hi σ H Q q)
noncomputable abbrev VO (X:Cx) (oe:Option Expr) (g:Option G):Prop:=PO X oe (tPt X.K X.H₀ g)
theorem zQS:VO X none none:=po_none.imp fun σ H Q h=>by
 obtain ⟨τ,F,E,o,E',S,hg,k⟩:=h
 cases hg
 exact k F H .refl S
theorem zIJ (h:VE X e ge):VO X (some e) (some ge):=(zPT h).imp fun σ H Q h=>by
 obtain ⟨τ,F,E,o,E',S,hg,k⟩:=h
 obtain ⟨p,ea,hg⟩:=Out.bind_ok hg
 refine ⟨τ,F,E,p.1,p.2,S,ea,fun v F1 H1 s1 S1 r1=>?_⟩
 split at hg
 ·rename_i i ei
  cases hg
  rw [ei] at r1
  cases r1
  exact ⟨i,rfl,k F1 H1 s1 S1⟩
 ·cases hg
noncomputable def cutD (x:D) (lo hi:Option Int):Out D:=match x with
 | .tup ds=>.ok (.tup (cutA ds lo hi))
 | .lst ds=>.ok (.lst (cutA ds lo hi))
 | _=>.bad
noncomputable def zHI (g:G) (lo hi:Option G):G:=fun E=>(g E).bind fun p=>(gPart lo p.2).bind fun q=>(gPart hi q.2).bind fun r=>(cutD p.1 q.1 r.1).bind fun d=>.ok (d,r.2)
theorem zL6 {lo hi:Option Expr} {gl gh:Option G} {p2:Pos} (he:VE X e ge) (hl:VO X lo gl) (hh:VO X hi gh):VE X (.Subscript e (.Slice lo hi none p2) pos) (zHI ge gl gh):=(zM5 (sl_tupX.or zPU) he hl hh).imp fun σ H Q h=>by
 obtain ⟨τ,F,E,d,E',S,hg,k⟩:=h
 obtain ⟨p,e1,hg⟩:=Out.bind_ok hg
 obtain ⟨q,e2,hg⟩:=Out.bind_ok hg
 obtain ⟨r,e3,hg⟩:=Out.bind_ok hg
 obtain ⟨z,e4,hg⟩:=Out.bind_ok hg
 cases hg
 refine ⟨τ,F,E,p.1,p.2,S,e1,fun v F1 H1 s1 S1 r1=>⟨τ,F1,p.2,q.1,q.2,S1,e2,fun F2 H2 s2 S2=>⟨τ,F2,q.2,r.1,r.2,S2,e3,fun F3 H3 s3 S3=>?_⟩⟩⟩
 have r1':=(r1.le s2.le).le s3.le
 have st:=(s1.trans s2).trans s3
 unfold cutD at e4
 split at e4
 ·rename_i ds ed
  cases e4
  rw [ed] at r1'
  obtain ⟨a,vs,rfl,h2,h1⟩:=r1'.tupSq
  refine .inl ⟨a,vs,rfl,h1 F3 H3 (.refl _) S3.sub,fun z=>k _ F3 H3 st S3 ?_,fun q' hq=>?_⟩
  ·have:cutA ds q.1 r.1=ds:=by
    have h5:=h2.cut q.1 r.1
    rw [z] at h5
    have h6:=h5.length
    have h7:=h2.length
    have h8:(cutA ds q.1 r.1).Sublist ds:=(List.take_sublist _ _).trans (List.drop_sublist _ _)
    exact h8.eq_of_length (by omega)
   rw [this]; exact r1'
  ·have n:=New.laid (o:=.tup (cutV vs q.1 r.1)) S3.sub hq
   exact k _ _ _ (st.trans n.stp) (S3.new n) (.tup zAC ((h2.cut q.1 r.1).le n.1.le))
 ·rename_i ds ed
  cases e4
  rw [ed] at r1'
  obtain ⟨a,vs,rfl,h1,h2⟩:=r1'.isRefL
  refine .inr ⟨a,vs,rfl,h1.imp S3.sub.rd id,fun q' hq=>?_⟩
  have n:=New.laid (o:=.lst (cutV vs q.1 r.1)) S3.sub hq
  exact k _ _ _ (st.trans n.stp) (S3.new n) (.lst (.inl (.inl zAC)) ((h2.cut q.1 r.1).le n.1.le))
 ·cases e4
noncomputable def gN (f:List D→Out D) (gs:List G):G:=fun E=>(gArgs gs E).bind fun p=>(f p.1).bind fun d=>.ok (d,p.2)
noncomputable def CallS (K:PySem.W.Frag) (r:List V→Hp→VK→Prop) (f:List D→Out D):Prop:=∀ vs xs F H d Q,Sub F H→Reps K F vs xs→f xs=.ok d→(∀ z F' H',New F H F' H'→Rep K F' z d→Q z H')→r vs H Q
noncomputable def CallF (K:PySem.W.Frag) (r:List V→Hp→VK→Prop) (f:List D→Out D):Prop:=∀ vs xs F H d Q,Sub F H→Reps K F vs xs→f xs=.ok d→(∀ a F' H',New F H F' H'→F' a=none→H a=none→OwnAt K F' H' a d→Q (.ref a) H')→r vs H Q
theorem tCB_v {r:List V→Hp→VK→Prop} {f:List D→Out D} (hs:CallS K r f) {σ:St} {Q:VK} (h:tV K H₀ (gN f gs) σ H Q):tCB r (tAr K H₀ gs) σ H Q:=by
 obtain ⟨τ,F,E,d,E',S,hg,k⟩:=h
 obtain ⟨p,e1,hg⟩:=Out.bind_ok hg
 obtain ⟨z,e2,hg⟩:=Out.bind_ok hg
 cases hg
 exact ⟨τ,F,E,p.1,p.2,S,e1,fun vs F1 H1 s1 S1 r1=>hs vs p.1 F1 H1 d Q S1.sub r1 e2 fun z F2 H2 n r2=>k z F2 H2 (s1.trans n.stp) (S1.new n) r2⟩
theorem tCB_f {r:List V→Hp→VK→Prop} {f:List D→Out D} (hs:CallF K r f) {σ:St} {Q:VK} (h:tF K H₀ (gN f gs) σ H Q):tCB r (tAr K H₀ gs) σ H Q:=by
 obtain ⟨τ,F,E,d,E',S,hg,k⟩:=h
 obtain ⟨p,e1,hg⟩:=Out.bind_ok hg
 obtain ⟨z,e2,hg⟩:=Out.bind_ok hg
 cases hg
 exact ⟨τ,F,E,p.1,p.2,S,e1,fun vs F1 H1 s1 S1 r1=>hs vs p.1 F1 H1 d Q S1.sub r1 e2 fun a F2 H2 n h1 h2 h3=>k a F2 H2 (s1.trans n.stp) (S1.new n) h1 (s1.dom a h2) h3 (S1.fresh h2)⟩
theorem v_blt {r:List V→Hp→VK→Prop} {f:List D→Out D} (hc:CallR X (.builtin id) r) (hs:CallS X.K r f) (hm:X.mg x=none) (hv:bootBuiltins x=some (.builtin id)) (ha:VA X (e::es) gs) (hg:Gl X x:=by rfl) (hn:x≠"__name__":=by decide) (hdb:(x == ("__debug__":Str))=false:=by decide)
  (he:starEach (e::es) X.env=(false,eval e X.env)::starEach es X.env:=by rfl) (hpl:(backTo pos (starEach es X.env)).any (·.1)=false:=by rfl):VE X (.Call (.Name x p) (e::es) [] pos) (gN f gs):=(zFU hc hg hm hv ha hn hdb he hpl).imp fun _ _ _ h=>tCB_v hs h
theorem f_blt {r:List V→Hp→VK→Prop} {f:List D→Out D} (hc:CallR X (.builtin id) r) (hs:CallF X.K r f) (hm:X.mg x=none) (hv:bootBuiltins x=some (.builtin id)) (ha:VA X (e::es) gs) (hg:Gl X x:=by rfl) (hn:x≠"__name__":=by decide) (hdb:(x == ("__debug__":Str))=false:=by decide)
  (he:starEach (e::es) X.env=(false,eval e X.env)::starEach es X.env:=by rfl) (hpl:(backTo pos (starEach es X.env)).any (·.1)=false:=by rfl):FE X (.Call (.Name x p) (e::es) [] pos) (gN f gs):=(zFU hc hg hm hv ha hn hdb he hpl).imp fun _ _ _ h=>tCB_f hs h
theorem v_ty {r:List V→Hp→VK→Prop} {f:List D→Out D} (hc:CallR X (.type T) r) (hs:CallS X.K r f) (hm:X.mg x=none) (hv:bootBuiltins x=some (.type T)) (ha:VA X (e::es) gs) (hg:Gl X x:=by rfl) (hn:x≠"__name__":=by decide) (hdb:(x == ("__debug__":Str))=false:=by decide)
  (he:starEach (e::es) X.env=(false,eval e X.env)::starEach es X.env:=by rfl) (hpl:(backTo pos (starEach es X.env)).any (·.1)=false:=by rfl):VE X (.Call (.Name x p) (e::es) [] pos) (gN f gs):=(zC8 hc hg hm hv ha hn hdb he hpl).imp fun _ _ _ h=>tCB_v hs h
theorem f_ty {r:List V→Hp→VK→Prop} {f:List D→Out D} (hc:CallR X (.type T) r) (hs:CallF X.K r f) (hm:X.mg x=none) (hv:bootBuiltins x=some (.type T)) (ha:VA X (e::es) gs) (hg:Gl X x:=by rfl) (hn:x≠"__name__":=by decide) (hdb:(x == ("__debug__":Str))=false:=by decide)
  (he:starEach (e::es) X.env=(false,eval e X.env)::starEach es X.env:=by rfl) (hpl:(backTo pos (starEach es X.env)).any (·.1)=false:=by rfl):FE X (.Call (.Name x p) (e::es) [] pos) (gN f gs):=(zC8 hc hg hm hv ha hn hdb he hpl).imp fun _ _ _ h=>tCB_f hs h
end
end L2
namespace L2
open PySem PySem.Spec PyProof.Rows
noncomputable def leI (a b:Int):Bool:=decide (a≤b)
noncomputable def sortI (ns:List Int):List Int:=ns.mergeSort leI
theorem zDL (ns:List Int):(sortI ns).Perm ns:=List.mergeSort_perm _ _
theorem zJE (ns:List Int):(sortI ns).Pairwise (·≤·):=by
 have:=List.pairwise_mergeSort (le:=leI) (fun a b c h1 h2=>decide_eq_true (Int.le_trans (of_decide_eq_true h1) (of_decide_eq_true h2)))
  (fun a b=>by unfold leI; rcases Int.le_total a b with h | h <;> simp [h]) ns
 exact this.imp fun h=>of_decide_eq_true h
theorem zGD {ms ns:List Int} (p:ms.Perm ns) (h:ms.Pairwise (·≤·)):ms=sortI ns :=
 List.Perm.eq_of_pairwise (le:=fun a b:Int=>decide (a≤b)=true) (fun a b _ _ h1 h2=>Int.le_antisymm (of_decide_eq_true h1) (of_decide_eq_true h2)) (h.imp fun h=>decide_eq_true h) ((zJE ns).imp fun h=>decide_eq_true h) (p.trans (zDL ns).symm)
noncomputable def leP (a b:Int × Int):Bool:=!ltP b a
noncomputable def sortP (ps:List (Int × Int)):List (Int × Int):=ps.mergeSort leP
theorem zGE {a b:Int × Int}:leP a b=true↔a.1<b.1∨(a.1=b.1∧a.2≤b.2):=by
 unfold leP ltP
 simp only [Bool.not_eq_true',decide_eq_false_iff_not]
 omega
theorem zBW (ps:List (Int × Int)):(sortP ps).Perm ps:=List.mergeSort_perm _ _
theorem zJF (ps:List (Int × Int)):(sortP ps).Pairwise (fun a b=>leP a b=true) :=
 List.pairwise_mergeSort (fun a b c h1 h2=>by rw [zGE] at *; omega) (fun a b=>by
  have:leP a b=true∨leP b a=true:=by rw [zGE,zGE]; omega
  simpa using this) ps
theorem zJG {ms ns:List (Int × Int)} (p:ms.Perm ns) (h:ms.Pairwise (fun a b=>leP a b=true)):ms=sortP ns :=
 List.Perm.eq_of_pairwise (le:=fun a b=>leP a b=true) (fun a b _ _ h1 h2=>by
  rw [zGE] at h1 h2
  exact Prod.ext (by omega) (by omega)) h (zJF ns) (p.trans (zBW ns).symm)
noncomputable def pairD (p:Int × Int):D:=.tup [.int p.1,.int p.2]
noncomputable def zCN:List D→Option (List (Int × Int))
 | []=>some []
 | .tup [.int a,.int b]::ds=>(zCN ds).map ((a,b)::·)
 | _::_=>none
theorem zKC:∀ {ds:List D} {ps:List (Int × Int)},zCN ds=some ps→ds=ps.map pairD:=by
 intro ds
 induction ds with
 | nil=>intro ps h; rw [zCN] at h; cases h; rfl
 | cons d ds ih =>
  intro ps h
  unfold zCN at h
  split at h
  ·rename_i e; cases e
  ·rename_i a b r e
   cases e
   obtain ⟨q,h1,h2⟩:=Option.map_eq_some_iff.mp h
   subst h2
   rw [ih h1]; rfl
  ·cases h
theorem zCH:∀ ps:List (Int × Int),zCN (ps.map pairD)=some ps
 | []=>rfl
 | p::ps=>by
  show (zCN (ps.map pairD)).map (fun r=>(p.1,p.2)::r)=_
  rw [zCH ps]; rfl
section
variable {X:Cx} {K:PySem.W.Frag} {H₀ F H:Hp} {a b c e tg:Expr} {es:List Expr} {ga gb gc ge:G} {gs:List G} {pos p:Pos} {x:Str}
theorem Reps.perm {zs ys:List V} (pm:zs.Perm ys):∀ {ds:List D},Reps K F ys ds→∃ es,es.Perm ds∧Reps K F zs es:=by
 induction pm with
 | nil=>intro ds r; cases r; exact ⟨[],List.Perm.refl _,.nil⟩
 | cons a _ ih =>
  intro ds r
  cases r with
  | cons h t =>
   obtain ⟨qs,q,r'⟩:=ih t
   exact ⟨_::qs,q.cons _,.cons h r'⟩
 | swap a b l =>
  intro ds r
  cases r with
  | cons h t =>
   cases t with
   | cons h' t'=>exact ⟨_::_::_,List.Perm.swap _ _ _,.cons h' (.cons h t')⟩
 | trans _ _ ih1 ih2 =>
  intro ds r
  obtain ⟨qs,q,r'⟩:=ih2 r
  obtain ⟨us,q',r''⟩:=ih1 r'
  exact ⟨us,q'.trans q,r''⟩
theorem zN0 {α β:Type} {f:α→β}:∀ {l1 l2:List β} (p:l1.Perm l2) (ns:List α),l2=ns.map f→∃ ms:List α,l1=ms.map f∧ms.Perm ns:=by
 intro l1 l2 p
 induction p with
 | nil=>intro ns e; cases ns with | nil=>exact ⟨[],rfl,List.Perm.refl _⟩ | cons _ _=>cases e
 | cons a _ ih =>
  intro ns e
  cases ns with
  | nil=>cases e
  | cons n ns =>
   injection e with e1 e2
   obtain ⟨ms,h1,h2⟩:=ih ns e2
   exact ⟨n::ms,by rw [List.map_cons,e1,h1],h2.cons n⟩
 | swap a b l =>
  intro ns e
  match ns,e with
  | c::d::ns,e =>
   injection e with e1 e2
   injection e2 with e2 e3
   exact ⟨d::c::ns,by rw [List.map_cons,List.map_cons,e1,e2,e3],List.Perm.swap _ _ _⟩
 | trans _ _ ih1 ih2 =>
  intro ns e
  obtain ⟨ms,h1,h2⟩:=ih2 ns e
  obtain ⟨ks,h3,h4⟩:=ih1 ms h1
  exact ⟨ks,h3,h4.trans h2⟩
theorem Reps.prs (s:Sub F H):∀ {ps:List (Int × Int)} {ys:List V},Reps K F ys (ps.map pairD)→Prs H ys ps
 | [],_,.nil=>.nil
 | p::ps,_,.cons h r=>by
  refine .cons ?_ (Reps.prs s r)
  have h:Rep K F _ (.tup [.int p.1,.int p.2]):=h
  generalize hk:[D.int p.1,.int p.2]=kk at h
  cases h with
  | tup hb rb =>
   subst hk
   cases rb with
   | cons h1 rb =>
    cases rb with
    | cons h2 rb =>
     cases rb; cases h1; cases h2
     exact ⟨_,rfl,s _ _ hb⟩
  | @tupK a xs hb nb =>
   cases xs with
   | nil=>cases hk
   | cons x xs=>cases hk
theorem zL7 (s:Sub F H):∀ {ps qs:List (Int × Int)} {ys:List V},Prs H ys ps→Prs H ys qs→ps=qs
 | _,_,_,.nil,.nil=>rfl
 | _,_,_,.cons ⟨a,e1,h1⟩ t1,.cons ⟨b,e2,h2⟩ t2=>by
  rw [e1] at e2; cases e2
  rw [h1] at h2
  simp only [Option.some.injEq,HO.tup.injEq,List.cons.injEq,V.int.injEq,and_true] at h2
  rw [zL7 s t1 t2,Prod.ext h2.1 h2.2]
noncomputable def sortD:List D→Out D
 | [.lst ds]=>match zA1 ds with
  | some ns=>.ok (.lst ((sortI ns).map D.int))
  | none=>match zCN ds with
   | some ps=>.ok (.lst ((sortP ps).map pairD))
   | none=>.bad
 | _=>.bad
noncomputable abbrev zQT (K:PySem.W.Frag):List V→Hp→VK→Prop:=fun xs H Q=>(∃ (l:Addr) (ns:List Int),xs=[.ref l]∧SqL K H l (ns.map V.int)∧∀ (ms:List Int) (q:Addr),ms.Perm ns→ms.Pairwise (·≤·)→H q=none→Q (.ref q) (upd H q (.lst (ms.map V.int)))) ∨
 (∃ (l:Addr) (ys:List V) (ps:List (Int × Int)),xs=[.ref l]∧SqL K H l ys∧Prs H ys ps∧∀ (zs:List V) (qs:List (Int × Int)) (q:Addr),zs.Perm ys→Prs H zs qs→qs.Perm ps→(qs.Pairwise fun a b=>ltP b a=false)→H q=none→Q (.ref q) (upd H q (.lst zs)))
theorem zL8:CallF K (zQT K) sortD:=fun vs xs F H d Q s r hf k=>by
 unfold sortD at hf
 split at hf
 ·rename_i ds
  cases r with
  | cons r rr =>
   cases rr
   obtain ⟨l,ys,rfl,h1,h2⟩:=r.isRefL
   split at hf
   ·rename_i ns en
    cases hf
    have:=zCM en
    subst this
    have:=h2.vint
    subst this
    refine .inl ⟨l,ns,rfl,h1.imp s.rd id,fun ms q pm pw hq=>?_⟩
    rw [zGD pm pw]
    have n:=New.junk (H':=upd H q (.lst ((sortI ns).map V.int))) s (Gr.new hq)
    exact k q F _ n (Sim.notF s hq) hq ⟨_,zAC,Reps.ints _⟩
   ·split at hf
    ·rename_i ps ep
     cases hf
     have:=zKC ep
     subst this
     refine .inr ⟨l,ys,ps,rfl,h1.imp s.rd id,h2.prs s,fun zs qs q pz hqs pq pw hq=>?_⟩
     obtain ⟨es,pe,re⟩:=Reps.perm pz h2
     obtain ⟨qs',rfl,pq'⟩:=zN0 pe ps rfl
     have:=zL7 s (re.prs s) hqs
     subst this
     have:qs'=sortP ps:=zJG pq (pw.imp fun h=>by unfold leP; rw [h]; rfl)
     subst this
     have n:=New.junk (H':=upd H q (.lst zs)) s (Gr.new hq)
     exact k q F _ n (Sim.notF s hq) hq ⟨_,zAC,re⟩
    ·cases hf
 ·cases hf
theorem zD2 (hm:X.mg "sorted"=none) (ha:VA X (e::es) gs) (hg:Gl X "sorted":=by rfl) (he:starEach (e::es) X.env=(false,eval e X.env)::starEach es X.env:=by rfl) (hpl:(backTo pos (starEach es X.env)).any (·.1)=false:=by rfl) :
  FE X (.Call (.Name "sorted" p) (e::es) [] pos) (gN sortD gs):=f_blt (call_sortedIO.or zF6) zL8 hm (by decide +kernel) ha hg (by decide) (by decide) he hpl
theorem zKD:CallR X (.builtin "len") (fun xs H Q=>∃ a kvs,xs=[V.ref a]∧Rd H a (.dT kvs)∧Q (.int kvs.length) H):=by
 intro pins s σ H xs us Q I r h
 obtain ⟨a,kvs,rfl,ha,q⟩:=h
 obtain ⟨u,rfl,ru⟩:=vals1 r
 cases ru
 obtain ⟨es,ep,rw',e1,e2,_⟩:=zE8 (ha.ok I.hok)
 have:=zDP
 refine zP4 rw' (by rw [sizeLine_eq] at e2; omega) fun t tk=>⟨.int kvs.length,H,I.tok tk,⟨t,by rw [e1]⟩,q⟩
theorem call_lenKR:CallR X (.builtin "len") (fun xs H Q=>∃ a kvs,xs=[V.ref a]∧Rd H a (.dK kvs)∧Q (.int kvs.length) H):=by
 intro pins s σ H xs us Q I r h
 obtain ⟨a,kvs,rfl,ha,q⟩:=h
 obtain ⟨u,rfl,ru⟩:=vals1 r
 cases ru
 exact d_len I ha fun t s' I'=>⟨.int kvs.length,H,I',⟨t,rfl⟩,q⟩
noncomputable def lenD:List D→Out D
 | [.lst ds]=>.ok (.int ds.length)
 | [.tup ds]=>.ok (.int ds.length)
 | [.str z]=>few z.length (.ok (.int z.length))
 | [.dk kvs]=>.ok (.int kvs.length)
 | [.dt kvs]=>.ok (.int kvs.length)
 | _=>.bad
noncomputable abbrev rLenA (K:PySem.W.Frag):List V→Hp→VK→Prop:=fun xs H Q=>(∃ p ys,xs=[.ref p]∧(SqL K H p ys∨SqT K H p ys)∧Q (.int ys.length) H)∨(∃ z,xs=[.str z]∧z.length≤sizeLine∧Q (.int z.length) H) ∨
 (∃ a kvs,xs=[V.ref a]∧Rd H a (.dK kvs)∧Q (.int kvs.length) H)∨(∃ a kvs,xs=[V.ref a]∧Rd H a (.dT kvs)∧Q (.int kvs.length) H)
theorem zSZ:CallS K (rLenA K) lenD:=fun vs xs F H d Q s r hf k=>by
 unfold lenD at hf
 split at hf
 ·cases hf
  cases r with
  | cons r rr =>
   cases rr
   obtain ⟨l,ys,rfl,h1,h2⟩:=r.isRefL
   exact .inl ⟨l,ys,rfl,.inl (h1.imp s.rd id),by rw [h2.length]; exact k _ F H (.refl s) (.int _)⟩
 ·cases hf
  cases r with
  | cons r rr =>
   cases rr
   obtain ⟨l,ys,rfl,h2,h1⟩:=r.tupSq
   exact .inl ⟨l,ys,rfl,.inr (h1 F H (.refl _) s),by rw [h2.length]; exact k _ F H (.refl s) (.int _)⟩
 ·obtain ⟨hl,hf⟩:=zB8 hf
  cases hf
  cases r with
  | cons r rr =>
   cases rr; cases r
   exact .inr (.inl ⟨_,rfl,le4 hl,k _ F H (.refl s) (.int _)⟩)
 ·cases hf
  cases r with
  | cons r rr =>
   cases rr
   cases r with
   | dk h1 h2=>exact .inr (.inr (.inl ⟨_,_,rfl,s.rd h1,by rw [h2.length]; exact k _ F H (.refl s) (.int _)⟩))
 ·cases hf
  cases r with
  | cons r rr =>
   cases rr
   cases r with
   | dt h1 h2=>exact .inr (.inr (.inr ⟨_,_,rfl,s.rd h1,by rw [h2.length]; exact k _ F H (.refl s) (.int _)⟩))
 ·cases hf
theorem v_len (hm:X.mg "len"=none) (ha:VA X (e::es) gs) (hg:Gl X "len":=by rfl) (he:starEach (e::es) X.env=(false,eval e X.env)::starEach es X.env:=by rfl) (hpl:(backTo pos (starEach es X.env)).any (·.1)=false:=by rfl) :
  VE X (.Call (.Name "len" p) (e::es) [] pos) (gN lenD gs):=v_blt (call_len_seq.or (call_len_str.or (call_lenKR.or zKD))) zSZ hm (by decide +kernel) ha hg (by decide) (by decide) he hpl
noncomputable def zO5:List V→Hp→VK→Prop:=fun xs H Q=>∃ (d:Addr) (kvs:List (Key × V)),xs=[.ref d]∧Rd H d (.dK kvs)∧∀ q,H q=none→Q (.ref q) (upd H q (.lst (kvs.map fun kv=>kV kv.1)))
theorem zHJ:∀ (ks:List Key) (us:List Value),us.length=ks.length→(∀ (i:Nat) v,us[i]?=some v→∃ k,ks[i]?=some k∧RelV (kV k) v)→Vals (ks.map kV) us
 | [],[],_,_=>.nil
 | k::ks,u::us,hl,h=>by
  obtain ⟨n,e1,e2⟩:=h 0 u rfl
  have e3:k=n:=by simpa using e1
  subst e3
  exact .cons e2 (zHJ ks us (by simpa using hl) fun i v hv=>h (i+1) v (by simpa using hv))
 | [],_::_,hl,_=>by simp at hl
 | _::_,[],hl,_=>by simp at hl
theorem zKE (hc:X.calm=true):CallR X (.type "list") zO5:=by
 intro pins s σ H xs us Q I r h
 obtain ⟨d,kvs,rfl,hd,q⟩:=h
 obtain ⟨u,rfl,ru⟩:=vals1 r
 cases ru
 obtain ⟨z,lo,vs,rel,dd⟩:=dk_rd I.hok hd
 obtain ⟨ep,da⟩:=dd.dictAt
 have hl0:kvs.length=vs.length:=rel.length
 refine PySem.W.kdl_call (PySem.W.kdl_dict (knd:=zAT X.prog X.w) (kvs:=vs) (ep:=ep) lo) (I.ok.hd hc) da (by omega) fun h' tk acc c' hk hS hI=>?_
 obtain ⟨hz,hi⟩:=hI
 have rv:Vals (kvs.map fun kv=>kV kv.1) acc.toList:=by
  have:=zHJ (kvs.map (·.1)) acc.toList (by simp; omega) fun i v hv=>by
   obtain ⟨k,xx,e1,e2⟩:=hi i v (by rw [← Array.getElem?_toList]; exact hv)
   refine ⟨k,by rw [rel.keys,List.getElem?_map,e1]; rfl,?_⟩
   rw [zE1] at e2
   rcases zAP e2 with ⟨j,t,z1,z2⟩ | ⟨y,t,z1,z2⟩
   ·rw [z1,z2]; exact ⟨t,rfl⟩
   ·rw [z1,z2]; exact ⟨t,rfl⟩
  rw [List.map_map] at this
  exact this
 refine ⟨.ref s.heap.objs.size,_,I.laid (o:=.lst (kvs.map fun kv=>kV kv.1)) hk (Nat.le_refl _) ⟨?_,acc.toList,c',rv,by simpa using hS⟩,rfl,q _ I.fresh⟩
 rw [List.length_map]; exact z
noncomputable def keyD:Key→D
 | .inl i=>.int i
 | .inr x=>.str x
theorem zL9 (k:Key):Rep K F (kV k) (keyD k):=by
 cases k with
 | inl i=>exact .int i
 | inr x=>exact .str x
theorem RepK.keys:∀ {vs:List (Key × V)} {ds:List (Key × D)},RepK K F vs ds→Reps K F (vs.map fun kv=>kV kv.1) (ds.map fun kv=>keyD kv.1)
 | _,_,.nil=>.nil
 | _,_,.cons (k:=k) _ r=>.cons (zL9 k) (RepK.keys r)
noncomputable def listD:List D→Out D
 | [.lst ds]=>.ok (.lst ds)
 | [.tup ds]=>.ok (.lst ds)
 | [.dk kvs]=>.ok (.lst (kvs.map fun kv=>keyD kv.1))
 | _=>.bad
noncomputable abbrev zS0 (K:PySem.W.Frag):List V→Hp→VK→Prop:=fun xs H Q=>(∃ p ys,xs=[.ref p]∧(SqL K H p ys∨SqT K H p ys)∧∀ l,H l=none→Q (.ref l) (upd H l (.lst ys)))∨zO5 xs H Q
theorem zQU:CallF K (zS0 K) listD:=fun vs xs F H d Q s r hf k=>by
 unfold listD at hf
 split at hf
 ·cases hf
  cases r with
  | cons r rr =>
   cases rr
   obtain ⟨l,ys,rfl,h1,h2⟩:=r.isRefL
   exact .inl ⟨l,ys,rfl,.inl (h1.imp s.rd id),fun q hq=>k q F _ (New.junk s (Gr.new hq)) (Sim.notF s hq) hq ⟨_,zAC,h2⟩⟩
 ·cases hf
  cases r with
  | cons r rr =>
   cases rr
   obtain ⟨l,ys,rfl,h2,h1⟩:=r.tupSq
   exact .inl ⟨l,ys,rfl,.inr (h1 F H (.refl _) s),fun q hq=>k q F _ (New.junk s (Gr.new hq)) (Sim.notF s hq) hq ⟨_,zAC,h2⟩⟩
 ·cases hf
  cases r with
  | cons r rr =>
   cases rr
   cases r with
   | dk h1 h2=>exact .inr ⟨_,_,rfl,s.rd h1,fun q hq=>k q F _ (New.junk s (Gr.new hq)) (Sim.notF s hq) hq ⟨_,zAC,h2.keys⟩⟩
 ·cases hf
theorem zMA (hc:X.calm=true) (hm:X.mg "list"=none) (ha:VA X (e::es) gs) (hg:Gl X "list":=by rfl) (he:starEach (e::es) X.env=(false,eval e X.env)::starEach es X.env:=by rfl) (hpl:(backTo pos (starEach es X.env)).any (·.1)=false:=by rfl) :
  FE X (.Call (.Name "list" p) (e::es) [] pos) (gN listD gs):=f_ty (call_list_of.or (zKE hc)) zQU hm (by decide +kernel) ha hg (by decide) (by decide) he hpl
noncomputable def tupD:List D→Out D
 | [.lst ds]=>.ok (.tup ds)
 | [.tup ds]=>.ok (.tup ds)
 | _=>.bad
theorem zS1:CallS K (fun xs H Q=>∃ p ys,xs=[.ref p]∧((SqL K H p ys∧∀ l,H l=none→Q (.ref l) (upd H l (.tup ys)))∨(SqT K H p ys∧Q (.ref p) H))) tupD:=fun vs xs F H d Q s r hf k=>by
 unfold tupD at hf
 split at hf
 ·cases hf
  cases r with
  | cons r rr =>
   cases rr
   obtain ⟨l,ys,rfl,h1,h2⟩:=r.isRefL
   refine ⟨l,ys,rfl,.inl ⟨h1.imp s.rd id,fun q hq=>?_⟩⟩
   have n:=New.laid (o:=.tup ys) s hq
   exact k _ _ _ n (.tup zAC (h2.le n.1.le))
 ·cases hf
  cases r with
  | cons r rr =>
   cases rr
   obtain ⟨l,ys,rfl,h2,h1⟩:=r.tupSq
   exact ⟨l,ys,rfl,.inr ⟨h1 F H (.refl _) s,k _ F H (.refl s) r⟩⟩
 ·cases hf
theorem zDM (hm:X.mg "tuple"=none) (ha:VA X (e::es) gs) (hg:Gl X "tuple":=by rfl) (he:starEach (e::es) X.env=(false,eval e X.env)::starEach es X.env:=by rfl) (hpl:(backTo pos (starEach es X.env)).any (·.1)=false:=by rfl) :
  VE X (.Call (.Name "tuple" p) (e::es) [] pos) (gN tupD gs):=v_ty zFY zS1 hm (by decide +kernel) ha hg (by decide) (by decide) he hpl
noncomputable def toBls:List D→Option (List Bool)
 | []=>some []
 | .bl b::ds=>(toBls ds).map (b::·)
 | _::_=>none
theorem zN1:∀ {ds:List D} {bs:List Bool},toBls ds=some bs→ds=bs.map D.bl:=by
 intro ds
 induction ds with
 | nil=>intro bs h; rw [toBls] at h; cases h; rfl
 | cons d ds ih =>
  intro bs h
  cases d with
  | bl b =>
   rw [toBls] at h
   obtain ⟨r,h1,h2⟩:=Option.map_eq_some_iff.mp h
   subst h2
   rw [ih h1]; rfl
  | _=>simp [toBls] at h
noncomputable def allD:List D→Out D
 | [.lst ds]=>match toBls ds with
  | some bs=>.ok (.bl (bs.all id))
  | none=>.bad
 | _=>.bad
theorem zS2:CallS K (rAll K) allD:=fun vs xs F H d Q s r hf k=>by
 unfold allD at hf
 split at hf
 ·split at hf
  ·rename_i bs eb
   cases hf
   have:=zN1 eb
   subst this
   cases r with
   | cons r rr =>
    cases rr
    obtain ⟨l,ys,rfl,h1,h2⟩:=r.isRefL
    have:=h2.vbl
    subst this
    exact ⟨l,bs,rfl,h1.imp s.rd id,k _ F H (.refl s) (.bl _)⟩
  ·cases hf
 ·cases hf
theorem v_all (hc:X.calm=true) (hm:X.mg "all"=none) (ha:VA X (e::es) gs) (hg:Gl X "all":=by rfl) (he:starEach (e::es) X.env=(false,eval e X.env)::starEach es X.env:=by rfl) (hpl:(backTo pos (starEach es X.env)).any (·.1)=false:=by rfl) :
  VE X (.Call (.Name "all" p) (e::es) [] pos) (gN allD gs):=v_blt (zNK hc) zS2 hm (by decide +kernel) ha hg (by decide) (by decide) he hpl
noncomputable def min2D:List D→Out D
 | [.int i,.int j]=>.ok (.int (if j<i then j else i))
 | _=>.bad
theorem zQV:CallS K (fun xs H Q=>∃ i j,xs=[.int i,.int j]∧Q (.int (if j<i then j else i)) H) min2D:=fun vs xs F H d Q s r hf k=>by
 unfold min2D at hf
 split at hf
 ·cases hf
  cases r with
  | cons r rr=>cases rr with
   | cons r' rr=>cases rr; cases r; cases r'; exact ⟨_,_,rfl,k _ F H (.refl s) (.int _)⟩
 ·cases hf
theorem zO6 (hc:X.calm=true) (hm:X.mg "min"=none) (ha:VA X (e::es) gs) (hg:Gl X "min":=by rfl) (he:starEach (e::es) X.env=(false,eval e X.env)::starEach es X.env:=by rfl) (hpl:(backTo pos (starEach es X.env)).any (·.1)=false:=by rfl) :
  VE X (.Call (.Name "min" p) (e::es) [] pos) (gN min2D gs):=v_blt (zKX hc) zQV hm (by decide +kernel) ha hg (by decide) (by decide) he hpl
end
end L2
namespace L2
open PySem PySem.Spec PyProof.Rows
section
variable {X:Cx} {K:PySem.W.Frag} {H₀ F H:Hp} {τ:Addr} {σ:St} {E:Ev} {a b c e tg:Expr} {es:List Expr} {ga gb gc ge:G} {gs:List G} {pos p:Pos} {x:Str}
theorem Sim.setO {i:Nat} {t:Bool} {d d':D} {ad:Addr} {o:HO} (S:Sim K H₀ τ F H σ E) (e:E[i]?=some (.own t d)) (ea:σ[i]?=some (some (.ref ad))) (h:OwnAt K F (upd H ad o) ad d') :
  Sim K H₀ τ F (upd H ad o) σ (E.set i (.own t d'))∧Stp (owA σ E) F H F (upd H ad o) (owA σ (E.set i (.own t d'))):=by
 obtain ⟨a',a1,a2,a3,a4,a5⟩:=S.own i t d e
 rw [ea] at a1; cases a1
 have hi:i<E.length:=(List.getElem?_eq_some_iff.mp e).1
 have ow:owA σ E ad:=⟨i,t,d,e,ea⟩
 have old:∀ (j:Nat) t' x,(E.set i (.own t d'))[j]?=some (.own t' x)→(j=i∧t'=t∧x=d')∨(j≠i∧E[j]?=some (.own t' x)):=fun j t' x z=>by
  by_cases hj:i=j
  ·subst hj; rw [List.getElem?_set_self hi] at z; cases z; exact .inl ⟨rfl,rfl,rfl⟩
  ·rw [List.getElem?_set_ne hj] at z; exact .inr ⟨Ne.symm hj,z⟩
 have inE:∀ (j:Nat) t' x,(E.set i (.own t d'))[j]?=some (.own t' x)→∃ t'' x',E[j]?=some (.own t'' x'):=fun j t' x z=>by
  rcases old j t' x z with ⟨rfl,_,_⟩ | ⟨_,z⟩
  ·exact ⟨_,_,e⟩
  ·exact ⟨_,_,z⟩
 refine ⟨⟨fun b u z=>?_,by rw [List.length_set]; exact S.len,fun j x z=>?_,fun j t' x z=>?_,fun j l t1 t2 x y b z1 z2=>?_⟩,⟨fun b u z _ n ho=>?_,fun b z=>?_,.refl _,fun b u z=>.inl (by rw [z]; exact nofun),fun b ⟨j,t',x,z1,z2⟩=>?_⟩⟩
 ·have:b≠ad:=fun y=>by rw [y,a2] at z; cases z
  rw [zAF this]; exact S.sub b u z
 ·by_cases hj:i=j
  ·subst hj; rw [List.getElem?_set_self hi] at z; cases z
  ·rw [List.getElem?_set_ne hj] at z; exact S.val j x z
 ·rcases old j t' x z with ⟨rfl,rfl,rfl⟩ | ⟨hj,z⟩
  ·exact ⟨ad,ea,a2,h,a4,a5⟩
  ·obtain ⟨c,c1,c2,c3,c4⟩:=S.own j t' x z
   have hc:c≠ad:=fun y=>hj (S.inj j i t' t x d ad z e (by rw [c1,y]) ea)
   exact ⟨c,c1,c2,c3.mono (.refl _) (zAF hc),c4⟩
 ·obtain ⟨_,_,w1⟩:=inE j _ _ z1
  obtain ⟨_,_,w2⟩:=inE l _ _ z2
  exact S.inj j l _ _ _ _ b w1 w2
 ·rw [zAF (fun y=>ho (by rw [y]; exact ow))]; exact z
 ·by_cases hb:b=ad
  ·rw [hb,zAC] at z; cases z
  ·rw [zAF hb] at z; exact z
 ·obtain ⟨t'',x',w⟩:=inE j t' x z1
  exact .inl ⟨j,t'',x',w,z2⟩
noncomputable def MetS (K:PySem.W.Frag) (r:V→List V→Hp→VK→Prop) (f:List D→List D→Out (D × List D)):Prop:=∀ (F H:Hp) (l:Addr) vs ds args xs d ds' Q,Sub F H→H l=some (.lst vs)→Reps K F vs ds→Reps K F args xs→f ds xs=.ok (d,ds') →
 (∀ y vs',Rep K F y d→Reps K F vs' ds'→Q y (upd H l (.lst vs')))→r (.ref l) args H Q
noncomputable def gMeth (i:Nat) (f:List D→List D→Out (D × List D)) (gs:List G):G:=fun E=>match E[i]? with
 | some (.own _ (.lst _))=>(gArgs gs E).bind fun p=>match p.2[i]? with
  | some (.own t (.lst ds))=>(f ds p.1).bind fun q=>.ok (q.1,p.2.set i (.own t (.lst q.2)))
  | _=>.bad
 | _=>.bad
theorem tBM_v {i:Nat} {r:V→List V→Hp→VK→Prop} {f:List D→List D→Out (D × List D)} (hs:MetS K r f) {Q:VK} (h:tV K H₀ (gMeth i f gs) σ H Q) :
  ∃ v,σ[i]?=some (some v)∧tyV K "list" v H∧tAr K H₀ gs σ H fun xs H2=>r v xs H2 Q:=by
 obtain ⟨τ,F,E,d,E',S,hg,k⟩:=h
 unfold gMeth at hg
 split at hg
 ·rename_i t0 ds0 e0
  obtain ⟨p,e1,hg⟩:=Out.bind_ok hg
  split at hg
  ·rename_i t ds e2
   obtain ⟨q,e3,hg⟩:=Out.bind_ok hg
   cases hg
   obtain ⟨ad,a1,a2,⟨vs0,a3,_⟩,_⟩:=S.own i _ _ e0
   refine ⟨_,a1,.inl ⟨rfl,vs0,SqL.of a3⟩,τ,F,E,p.1,p.2,S,e1,fun args F1 H1 s1 S1 r1=>?_⟩
   obtain ⟨ad',b1,b2,⟨vs,b3,b4⟩,_⟩:=S1.own i _ _ e2
   rw [a1] at b1; cases b1
   refine hs F1 H1 ad vs ds args p.1 q.1 q.2 Q S1.sub b3 b4 r1 e3 fun y vs' ry rvs=>?_
   obtain ⟨S2,s2⟩:=S1.setO (o:=.lst vs') (d':=.lst q.2) e2 a1 ⟨vs',zAC,rvs⟩
   exact k y F1 _ (s1.trans s2) S2 ry
  ·cases hg
 ·cases hg
variable {apos cpos:Pos} {xn:Str} {q:Pos}
noncomputable def appD (ds xs:List D):Out (D × List D):=match xs with
 | [d]=>few ds.length (.ok (.non,ds++[d]))
 | _=>.bad
theorem zMB:MetS K zK7 appD:=fun F H l vs ds args xs d ds' Q s h r ra hf k=>by
 unfold appD at hf
 split at hf
 ·obtain ⟨hl,hf⟩:=zB8 hf
  cases hf
  cases ra with
  | cons r1 rr =>
   cases rr
   exact ⟨l,vs,_,rfl,rfl,h,by rw [r.length]; exact zEG hl,k _ _ .non (r.append (.cons r1 .nil))⟩
 ·cases hf
noncomputable def popD (ds xs:List D):Out (D × List D):=match xs with
 | []=>match ds[ds.length - 1]? with
  | some d=>.ok (d,ds.dropLast)
  | none=>.bad
 | _=>.bad
theorem Reps.dropLast {vs:List V} {ds:List D} (r:Reps K F vs ds):Reps K F vs.dropLast ds.dropLast:=by
 rw [List.dropLast_eq_take,List.dropLast_eq_take,r.length]
 exact r.take _
theorem zS3:MetS K rPop popD:=fun F H l vs ds args xs d ds' Q s h r ra hf k=>by
 unfold popD at hf
 split at hf
 ·split at hf
  ·rename_i d' e
   cases hf
   cases ra
   obtain ⟨v,h1,h2⟩:=r.get e
   exact ⟨l,vs,v,rfl,rfl,h,by rw [r.length]; exact h1,k _ _ h2 r.dropLast⟩
  ·cases hf
 ·cases hf
noncomputable def zDU (ds xs:List D):Out (D × List D):=match xs with
 | [.int i]=>guard (0≤i∧i<ds.length∧ds.length<10000) (match ds[i.toNat]? with
  | some d=>.ok (d,ds.eraseIdx i.toNat)
  | none=>.bad)
 | _=>.bad
theorem zN2:MetS K zOS zDU:=fun F H l vs ds args xs d ds' Q s h r ra hf k=>by
 unfold zDU at hf
 split at hf
 ·rename_i i
  obtain ⟨⟨g1,g2,g3⟩,hf⟩:=zBS hf
  split at hf
  ·rename_i d' e
   cases hf
   cases ra with
   | cons r1 rr =>
    cases rr; cases r1
    obtain ⟨v,h1,h2⟩:=r.get e
    exact ⟨l,vs,i,i.toNat,v,rfl,rfl,h,by omega,by omega,by rw [r.length]; exact seqIndex_of g1 g2,h1,k _ _ h2 (r.eraseIdx _)⟩
  ·cases hf
 ·cases hf
theorem zGF (i:Nat) (ha:VA X [e] gs) (hN:X.N[i]?=some xn:=by rfl) (hv:Vis X.env.scope xn:=by first | exact Or.inl rfl | exact Or.inr (Or.inl rfl) | exact Or.inr (Or.inr rfl)) (hd:(xn == ("__debug__":Str))=false:=by decide) (hcd:(xn == ("__classdict__":Str))=false:=by decide)
  (hbase:attributeBase (.Name xn q) "append" X.env (eval (.Name xn q) X.env)=eval (.Name xn q) X.env:=by rfl)
  (hfew:((backTo cpos (starEach [e] X.env)).all (fun x=>!x.1) && (backToKw cpos (keywordEach [] X.env)).all (fun x=>x.1.isSome)
   && decide ([e].length+([]:List Keyword).length+(if ([]:List Keyword).isEmpty then 0 else 1)<30))=true:=by rfl)
  (hline:(apos.endLine == cpos.line)=true:=by rfl) (hs:starEach [e] X.env=(false,eval e X.env)::starEach [] X.env:=by rfl) (hplain:(backTo cpos (starEach [] X.env)).any (·.1)=false:=by rfl) :
  VE X (.Call (.Attribute (.Name xn q) "append" apos) [e] [] cpos) (gMeth i appD gs) :=
 (pe_bm PySem.F.plainAttrs_list PySem.F.slot_list_append PySem.F.type_list_append zD8 (zD5 hN hv hd hcd) ha hbase hfew hline hs hplain).imp fun σ H Q h=>tBM_v zMB h
theorem zQW (i:Nat) (ha:VA X [e] gs) (hN:X.N[i]?=some xn:=by rfl) (hv:Vis X.env.scope xn:=by first | exact Or.inl rfl | exact Or.inr (Or.inl rfl) | exact Or.inr (Or.inr rfl)) (hd:(xn == ("__debug__":Str))=false:=by decide) (hcd:(xn == ("__classdict__":Str))=false:=by decide)
  (hbase:attributeBase (.Name xn q) "pop" X.env (eval (.Name xn q) X.env)=eval (.Name xn q) X.env:=by rfl)
  (hfew:((backTo cpos (starEach [e] X.env)).all (fun x=>!x.1) && (backToKw cpos (keywordEach [] X.env)).all (fun x=>x.1.isSome)
   && decide ([e].length+([]:List Keyword).length+(if ([]:List Keyword).isEmpty then 0 else 1)<30))=true:=by rfl)
  (hline:(apos.endLine == cpos.line)=true:=by rfl) (hs:starEach [e] X.env=(false,eval e X.env)::starEach [] X.env:=by rfl) (hplain:(backTo cpos (starEach [] X.env)).any (·.1)=false:=by rfl) :
  VE X (.Call (.Attribute (.Name xn q) "pop" apos) [e] [] cpos) (gMeth i zDU gs) :=
 (pe_bm PySem.F.plainAttrs_list PySem.F.slot_list_pop PySem.F.type_list_pop zM8 (zD5 hN hv hd hcd) ha hbase hfew hline hs hplain).imp fun σ H Q h=>tBM_v zN2 h
theorem v_pop (i:Nat) (hN:X.N[i]?=some xn:=by rfl) (hv:Vis X.env.scope xn:=by first | exact Or.inl rfl | exact Or.inr (Or.inl rfl) | exact Or.inr (Or.inr rfl)) (hd:(xn == ("__debug__":Str))=false:=by decide) (hcd:(xn == ("__classdict__":Str))=false:=by decide)
  (hbase:attributeBase (.Name xn q) "pop" X.env (eval (.Name xn q) X.env)=eval (.Name xn q) X.env:=by rfl) (hline:(apos.endLine == cpos.line)=true:=by rfl) :
  VE X (.Call (.Attribute (.Name xn q) "pop" apos) [] [] cpos) (gMeth i popD []) :=
 (zSC PySem.F.plainAttrs_list PySem.F.slot_list_pop PySem.F.type_list_pop zSD (zD5 hN hv hd hcd) hbase hline).imp fun σ H Q h=>by
  obtain ⟨v,h1,h2,τ,F,E,ds,E',S,hg,k⟩:=tBM_v zS3 h
  cases hg
  exact ⟨v,h1,h2,k [] F H .refl S .nil⟩
theorem RepK.put (k:Key) {v:V} {d:D} {vs:List (Key × V)} {ds:List (Key × D)} (r:RepK K F vs ds) (h:Rep K F v d):RepK K F (putK vs k v) (kput ds k d):=by
 have any:∀ {vs:List (Key × V)} {ds:List (Key × D)},RepK K F vs ds→(vs.any fun kv=>decide (kv.1=k))=(ds.any fun kv=>decide (kv.1=k)):=by
  intro vs ds r
  induction vs generalizing ds with
  | nil=>cases r; rfl
  | cons x xs ih=>cases r with | cons h r=>rw [List.any_cons,List.any_cons,ih r]
 have mp:∀ {vs:List (Key × V)} {ds:List (Key × D)},RepK K F vs ds→RepK K F (vs.map fun kv=>if kv.1=k then (kv.1,v) else kv) (ds.map fun kv=>if kv.1=k then (kv.1,d) else kv):=by
  intro vs ds r
  induction vs generalizing ds with
  | nil=>cases r; exact .nil
  | cons x xs ih =>
   cases r with
   | @cons k' v' d' _ _ h' r =>
    rw [List.map_cons,List.map_cons]
    by_cases e:k'=k
    ·simp only [e,if_true]; exact .cons h (ih r)
    ·simp only [e,if_false]; exact .cons h' (ih r)
 have ap:∀ {vs:List (Key × V)} {ds:List (Key × D)},RepK K F vs ds→RepK K F (vs++[(k,v)]) (ds++[(k,d)]):=by
  intro vs ds r
  induction vs generalizing ds with
  | nil=>cases r; exact .cons h .nil
  | cons x xs ih=>cases r with | cons h' r=>exact .cons h' (ih r)
 unfold putK kput
 rw [any r]
 split
 ·exact mp r
 ·exact ap r
theorem RepT.put (k:List Int) {v:V} {d:D} {vs:List (List Key × V)} {ds:List (List Int × D)} (r:RepT K F vs ds) (h:Rep K F v d):RepT K F (putK vs (k.map Sum.inl) v) (kput ds k d):=by
 have dec:∀ k':List Int,decide (k'.map (Sum.inl:Int→Key)=k.map Sum.inl)=decide (k'=k):=fun k'=>by
  by_cases e:k'=k
  ·simp [e]
  ·have e':¬ k'.map (Sum.inl:Int→Key)=k.map Sum.inl:=fun z=>e (zGA z)
   simp [e,e']
 have any:∀ {vs:List (List Key × V)} {ds:List (List Int × D)},RepT K F vs ds→(vs.any fun kv=>decide (kv.1=k.map Sum.inl))=(ds.any fun kv=>decide (kv.1=k)):=by
  intro vs ds r
  induction vs generalizing ds with
  | nil=>cases r; rfl
  | cons x xs ih=>cases r with | @cons k' _ _ _ _ h r=>rw [List.any_cons,List.any_cons,ih r]; show (decide _ || _)=(decide _ || _); rw [dec k']
 have mp:∀ {vs:List (List Key × V)} {ds:List (List Int × D)},RepT K F vs ds→RepT K F (vs.map fun kv=>if kv.1=k.map Sum.inl then (kv.1,v) else kv) (ds.map fun kv=>if kv.1=k then (kv.1,d) else kv):=by
  intro vs ds r
  induction vs generalizing ds with
  | nil=>cases r; exact .nil
  | cons x xs ih =>
   cases r with
   | @cons k' v' d' _ _ h' r =>
    rw [List.map_cons,List.map_cons]
    by_cases e:k'=k
    ·simp only [e,if_true]; exact .cons h (ih r)
    ·have e':¬ k'.map (Sum.inl:Int→Key)=k.map Sum.inl:=fun z=>e (zGA z)
     simp only [e,e',if_false]; exact .cons h' (ih r)
 have ap:∀ {vs:List (List Key × V)} {ds:List (List Int × D)},RepT K F vs ds→RepT K F (vs++[(k.map Sum.inl,v)]) (ds++[(k,d)]):=by
  intro vs ds r
  induction vs generalizing ds with
  | nil=>cases r; exact .cons h .nil
  | cons x xs ih=>cases r with | cons h' r=>exact .cons h' (ih r)
 unfold putK kput
 rw [any r]
 split
 ·exact mp r
 ·exact ap r
noncomputable def setD (x k v:D):Out D:=match x,k with
 | .lst ds,.int i=>match ixN ds.length i with
  | some j=>.ok (.lst (ds.set j v))
  | none=>.bad
 | .dk kvs,k=>match toKey k with
  | some k=>few kvs.length (.ok (.dk (kput kvs k v)))
  | none=>.bad
 | .dt kvs,.tup ks=>match zA1 ks with
  | some ns=>few kvs.length (.ok (.dt (kput kvs ns v)))
  | none=>.bad
 | _,_=>.bad
noncomputable def zAO (i:Nat) (gk gv:G):GS:=fun E=>match E[i]? with
 | some (.own _ _)=>(gv E).bind fun v=>(gk v.2).bind fun k=>match k.2[i]? with
  | some (.own t d)=>(setD d k.1 v.1).bind fun d'=>.ok (.nx (k.2.set i (.own t d')))
  | _=>.bad
 | _=>.bad
theorem zA4 {gk gv:G} {kx value:Expr} {spos tpos:Pos} (i:Nat) (hu:X.A.units+64<cLine) (hk:VE X kx gk) (hvv:VE X value gv)
  (hN:X.N[i]?=some xn:=by rfl) (hv:Vis X.env.scope xn:=by first | exact Or.inl rfl | exact Or.inr (Or.inl rfl) | exact Or.inr (Or.inr rfl)) (hd:(xn == ("__debug__":Str))=false:=by decide) (hcd:(xn == ("__classdict__":Str))=false:=by decide)
  (hs:swapsWith value (some (.Subscript (.Name xn q) kx tpos)) spos.line X.env=pure false:=by rfl)
  (hs1:swapsWithSole [.Subscript (.Name xn q) kx tpos] value spos.line X.env=pure false:=by rfl) (hw:swappedStores [.Subscript (.Name xn q) kx tpos] value X.env=pure none:=by rfl)
  (h1:(assignEach [.Subscript (.Name xn q) kx tpos] X.env).map (·.2)=[assign (.Subscript (.Name xn q) kx tpos) X.env]:=by rfl)
  (ha:∀ v,assign (.Subscript (.Name xn q) kx tpos) X.env v=(do
   let ov ← holding [v] (eval (.Name xn q) X.env)
   let iv ← holding [v,ov] (eval kx X.env)
   standAt tpos
   holding [v,ov,iv] (setItem ov iv v)
   release [v,ov,iv] []):=by intro _; rfl):VS X (.Assign [.Subscript (.Name xn q) kx tpos] value spos) (zAO i gk gv):=fun pins s σ H D' I h=>by
 obtain ⟨τ,F,E,r,S,hg,k⟩:=h
 unfold zAO at hg
 split at hg
 ·rename_i t0 d0 e0
  obtain ⟨v,e1,hg⟩:=Out.bind_ok hg
  obtain ⟨ky,e2,hg⟩:=Out.bind_ok hg
  split at hg
  ·rename_i t d e3
   obtain ⟨d',e4,hg⟩:=Out.bind_ok hg
   cases hg
   obtain ⟨ad,a1,_⟩:=S.own i _ _ e0
   have pn:=zD5 (pos:=q) hN hv hd hcd
   have fin:∀ {F2 H2:Hp} {o:HO},Stp (owA σ E) F H F2 H2 (owA σ ky.2)→Sim X.K X.H₀ τ F2 H2 σ ky.2→OwnAt X.K F2 (upd H2 ad o) ad d'→D'.nx σ (upd H2 ad o):=fun {F2 H2 o} s2 S2 ow=>by
    obtain ⟨S3,s3⟩:=S2.setO (o:=o) (d':=d') e3 a1 ow
    exact k σ F2 _ (s2.trans s3) S3
   have own:∀ {F2 H2:Hp},Sim X.K X.H₀ τ F2 H2 σ ky.2→OwnAt X.K F2 H2 ad d:=fun {F2 H2} S2=>by
    obtain ⟨ad',b1,_,b3,_⟩:=S2.own i t d e3
    rw [a1] at b1; cases b1
    exact b3
   cases d with
   | lst ds =>
    refine zKS hvv (zRZ pn hk zM6 ha) hs1 hw h1 pins s σ H D' I ?_
    refine ⟨τ,F,E,v.1,v.2,S,e1,fun vv F1 H1 s1 S1 r1=>⟨_,a1,τ,F1,v.2,ky.1,ky.2,S1,e2,fun kk F2 H2 s2 S2 r2=>?_⟩⟩
    obtain ⟨vs,o1,o2⟩:=own S2
    generalize hy:ky.1=y at e4 r2
    cases y with
    | int ii =>
     have e4:(match ixN ds.length ii with | some j=>Out.ok (D.lst (ds.set j v.1)) | none=>.bad)=.ok d':=e4
     cases r2
     split at e4
     ·rename_i j ej
      cases e4
      exact ⟨ad,vs,ii,j,rfl,rfl,o1,by rw [o2.length]; exact ej,fin (s1.trans s2) S2 ⟨_,zAC,o2.set j (r1.le s2.le)⟩⟩
     ·cases e4
    | _=>cases e4
   | dk kvs =>
    refine zLA (by omega) pn hk hvv hs pins s σ H D' I ?_
    refine ⟨τ,F,E,v.1,v.2,S,e1,fun vv F1 H1 s1 S1 r1=>⟨_,a1,τ,F1,v.2,ky.1,ky.2,S1,e2,fun kk F2 H2 s2 S2 r2=>?_⟩⟩
    obtain ⟨vs,o1,o2⟩:=own S2
    have e4:(match toKey ky.1 with | some k=>few kvs.length (Out.ok (D.dk (kput kvs k v.1))) | none=>.bad)=.ok d':=e4
    split at e4
    ·rename_i k' ek
     obtain ⟨hl,e4⟩:=zB8 e4
     cases e4
     have ek':kk=kV k':=by
      generalize hy:ky.1=y at ek r2
      cases y <;> first | cases ek | skip
      ·cases r2; rfl
      ·cases r2; rfl
     subst ek'
     exact ⟨ad,_,rfl,DPut.k o1 (by rw [o2.length]; exact zEG hl),fin (s1.trans s2) S2 ⟨_,zAC,o2.put k' (r1.le s2.le)⟩⟩
    ·cases e4
   | dt kvs =>
    refine zLA (by omega) pn hk hvv hs pins s σ H D' I ?_
    refine ⟨τ,F,E,v.1,v.2,S,e1,fun vv F1 H1 s1 S1 r1=>⟨_,a1,τ,F1,v.2,ky.1,ky.2,S1,e2,fun kk F2 H2 s2 S2 r2=>?_⟩⟩
    obtain ⟨vs,o1,o2⟩:=own S2
    generalize hy:ky.1=y at e4 r2
    cases y with
    | tup ks =>
     have e4:(match zA1 ks with | some ns=>few kvs.length (Out.ok (D.dt (kput kvs ns v.1))) | none=>.bad)=.ok d':=e4
     split at e4
     ·rename_i ns ek
      obtain ⟨hl,e4⟩:=zB8 e4
      cases e4
      have:=zCM ek
      subst this
      generalize hk2:ns.map D.int=kk2 at r2
      cases r2 with
      | tup hb rb =>
       subst hk2
       have:=rb.vint
       subst this
       refine ⟨ad,_,rfl,DPut.t (k:=ns.map Sum.inl) o1 ?_ (by rw [o2.length]; exact zEG hl),fin (s1.trans s2) S2 ⟨_,zAC,o2.put ns (r1.le s2.le)⟩⟩
       rw [List.map_map]
       exact S2.sub _ _ hb
      | @tupK a xs hb nb =>
       cases xs with
       | nil=>exact absurd rfl nb
       | cons x xs =>
        cases ns with
        | nil=>cases hk2
        | cons n ns=>cases hk2
     ·cases e4
    | _=>cases e4
   | _=>cases e4
  ·cases hg
 ·cases hg
end
end L2
namespace L2
open PySem PySem.Spec PyProof.Rows
section
variable {X:Cx} {K:PySem.W.Frag} {H₀ F H:Hp} {τ:Addr} {σ:St} {E:Ev} {a b c e tg:Expr} {es:List Expr} {ga gb gc ge:G} {gs:List G} {pos p:Pos} {x:Str}
noncomputable def tyN:D→String
 | .non=>"NoneType"
 | .bl _=>"bool"
 | .int _=>"int"
 | .str _=>"str"
 | .tup _=>"tuple"
 | .lst _=>"list"
 | .dk _=>"dict"
 | .dt _=>"dict"
noncomputable def isB (t c:String):Bool:=t == c || (t == "bool" && c == "int")
noncomputable def gInst (c:String) (g:G):G:=fun E=>(g E).bind fun p=>.ok (.bl (isB (tyN p.1) c),p.2)
theorem zN3 {pins:List (Addr × Obj)} {s:Shared} {A:Around} {Ex:Value→Shared→Prop} {Q:Value→Shared→Prop} {cv:Value} {bb:Bool} (I:Inv X pins σ H s) {ad:Addr} {vs:List V} (h:SqL X.K H ad vs)
  (e:PySem.W.kitOne X.K (.type "list") cv=some bb) (hq:∀ tk,Q (.bool bb) { s with toks:=tk }):wpAny (model X.prog X.w) A (call (.builtin "isinstance") [.ref ad,cv]) Q Ex s:=by
 obtain ⟨its,r,pl,z⟩:=I.list h
 obtain ⟨o,h1,h2,_⟩:=pl.isList
 exact PySem.W.kia_one PySem.W.kitx_list I.kIn ⟨o,h1,h2⟩ e (fun z=>nomatch z) hq
theorem zHK {pins:List (Addr × Obj)} {s:Shared} {A:Around} {Ex:Value→Shared→Prop} {Q:Value→Shared→Prop} {cv:Value} {bb:Bool} (I:Inv X pins σ H s) {ad:Addr} (h:(∃ kvs,Rd H ad (.dK kvs))∨∃ kvs,Rd H ad (.dT kvs))
  (e:PySem.W.kitOne X.K (.type "dict") cv=some bb) (hq:∀ tk,Q (.bool bb) { s with toks:=tk }):wpAny (model X.prog X.w) A (call (.builtin "isinstance") [.ref ad,cv]) Q Ex s:=by
 rcases h with ⟨kvs,h⟩ | ⟨kvs,h⟩
 ·obtain ⟨_,_,vs,_,o,es,ep,h1,h2,_⟩:=(show ObjOk X.prog X.w H s.heap ad (.dK kvs) from h.ok I.hok)
  exact PySem.W.kia_one PySem.W.kitx_dict I.kIn ⟨o,h1,h2.1⟩ e (fun z=>nomatch z) hq
 ·obtain ⟨_,_,xs,_,o,es,ep,h1,h2,_⟩:=(show ObjOk X.prog X.w H s.heap ad (.dT kvs) from h.ok I.hok)
  exact PySem.W.kia_one PySem.W.kitx_dict I.kIn ⟨o,h1,h2.1⟩ e (fun z=>nomatch z) hq
structure IsC (c:String):Prop where
 k:∀ (K:PySem.W.Frag) (t:String),t∈["NoneType","bool","int","str","tuple","list","dict"]→PySem.W.kitOne K (.type t) (.type c)=some (isB t c)
theorem zQX:IsC "int":=⟨fun K t h=>by simp only [List.mem_cons,List.not_mem_nil,or_false] at h; rcases h with rfl | rfl | rfl | rfl | rfl | rfl | rfl <;> rfl⟩
theorem zN4:IsC "bool":=⟨fun K t h=>by simp only [List.mem_cons,List.not_mem_nil,or_false] at h; rcases h with rfl | rfl | rfl | rfl | rfl | rfl | rfl <;> rfl⟩
theorem zDD:IsC "tuple":=⟨fun K t h=>by simp only [List.mem_cons,List.not_mem_nil,or_false] at h; rcases h with rfl | rfl | rfl | rfl | rfl | rfl | rfl <;> rfl⟩
noncomputable def zS4 (K:PySem.W.Frag) (c:String):List V→Hp→VK→Prop:=fun xs H Q=>∃ v F d,xs=[v,.ty c]∧Sub F H∧Rep K F v d∧Q (.bl (isB (tyN d) c)) H
theorem zKF {cn:String} (ic:IsC cn):CallR X (.builtin "isinstance") (zS4 X.K cn):=by
 intro pins s σ H xs us Q I r h
 obtain ⟨v,F,d,rfl,sb,rd,q⟩:=h
 cases r with
 | cons r1 r2 =>
  cases r2 with
  | cons r2 r3 =>
   cases r3
   cases r2
   have fin:∀ {bb:Bool} (tk:Nat),isB (tyN d) cn=bb→EP X pins σ Q (.bool bb) { s with toks:=tk }:=fun tk e=>by subst e; exact ⟨.bl _,H,I.tok tk,rfl,q⟩
   cases d with
   | non=>cases rd; exact zC7 I r1 .non (ic.k _ _ (by simp)) fun tk=>fin tk rfl
   | bl b=>cases rd; exact zC7 I r1 (.bl _) (ic.k _ _ (by simp)) fun tk=>fin tk rfl
   | int i=>cases rd; exact zC7 I r1 (.int _) (ic.k _ _ (by simp)) fun tk=>fin tk rfl
   | str i=>cases rd; exact zC7 I r1 (.str _) (ic.k _ _ (by simp)) fun tk=>fin tk rfl
   | lst ds =>
    obtain ⟨l,ys,rfl,h1,h2⟩:=rd.isRefL
    cases r1
    exact zN3 I (h1.imp sb.rd id) (ic.k _ _ (by simp)) fun tk=>fin tk rfl
   | tup ds =>
    obtain ⟨l,ys,rfl,h2,h1⟩:=rd.tupSq
    cases r1
    exact zNI I (h1 F H (.refl _) sb) (ic.k _ _ (by simp)) fun tk=>fin tk rfl
   | dk kvs =>
    cases rd with
    | dk h1 _=>cases r1; exact zHK I (.inl ⟨_,sb.rd h1⟩) (ic.k _ _ (by simp)) fun tk=>fin tk rfl
   | dt kvs =>
    cases rd with
    | dt h1 _=>cases r1; exact zHK I (.inr ⟨_,sb.rd h1⟩) (ic.k _ _ (by simp)) fun tk=>fin tk rfl
theorem zFI {cn:String} {cx:Str} {cp:Pos} (ic:IsC cn) (hm:X.mg "isinstance"=none) (hmc:X.mg cx=none) (hvc:bootBuiltins cx=some (.type cn)) (ha:VE X a ga) (hg:Gl X "isinstance":=by rfl) (hgc:Gl X cx:=by rfl) (hnc:cx≠"__name__":=by decide) (hdc:(cx == ("__debug__":Str))=false:=by decide)
  (hs1:starEach [.Name cx cp] X.env=(false,eval (.Name cx cp) X.env)::starEach [] X.env:=by rfl)
  (he:starEach (a::[.Name cx cp]) X.env=(false,eval a X.env)::starEach [.Name cx cp] X.env:=by rfl) (hpl:(backTo pos (starEach [.Name cx cp] X.env)).any (·.1)=false:=by rfl) :
  VE X (.Call (.Name "isinstance" p) [a,.Name cx cp] [] pos) (gInst cn ga) :=
 (zFU (zKF ic) hg hm (by decide +kernel) (zA9 ha (zA9 (zPJ (v:=.ty cn) hgc hmc hvc rfl hnc hdc) pa_nil hs1) he) (by decide) (by decide) he hpl).imp fun σ H Q h=>by
  obtain ⟨τ,F,E,d,E',S,hg,k⟩:=h
  obtain ⟨q,e1,hg⟩:=Out.bind_ok hg
  cases hg
  exact ⟨τ,F,E,q.1,q.2,S,e1,fun v F1 H1 s1 S1 r1=>⟨v,F1,q.1,rfl,S1.sub,r1,k _ F1 H1 s1 S1 (.bl _)⟩⟩
theorem zIK:FE X (.Dict [] [] pos) (gC (.dk [])):=pe_dnewK.imp fun σ H Q h q hq=>by
 obtain ⟨τ,F,E,d,E',S,hg,k⟩:=h
 cases hg
 have n:=New.junk (H':=upd H q (.dK [])) S.sub (Gr.new hq)
 exact k q F _ n.stp (S.new n) (Sim.notF S.sub hq) hq ⟨_,zAC,.nil⟩ (S.fresh hq)
theorem zQY:FE X (.Dict [] [] pos) (gC (.dt [])):=pe_dnewT.imp fun σ H Q h q hq=>by
 obtain ⟨τ,F,E,d,E',S,hg,k⟩:=h
 cases hg
 have n:=New.junk (H':=upd H q (.dT [])) S.sub (Gr.new hq)
 exact k q F _ n.stp (S.new n) (Sim.notF S.sub hq) hq ⟨_,zAC,.nil⟩ (S.fresh hq)
noncomputable def zMC (gk gv:G):G:=fun E=>(gk E).bind fun p=>(gv p.2).bind fun q=>match toKey p.1 with
 | some k=>.ok (.dk [(k,q.1)],q.2)
 | none=>.bad
theorem kV_of {y:D} {kk:V} {k':Key} (ek:toKey y=some k') (r2:Rep K F kk y):kk=kV k':=by
 cases y <;> first | cases ek | skip
 ·cases r2; rfl
 ·cases r2; rfl
theorem zQZ {gk gv : G} {kx vx : Expr} (hk : VE X kx gk) (hv : VE X vx gv) : FE X (.Dict [some kx] [vx] pos) (zMC gk gv) := (zPY (zNA hk hv zPX) rfl rfl (by simp) (by show 1 ≤ 15; decide)).imp fun σ H Q h q hq => by
  obtain ⟨τ, F, E, d, E', S, hg, k⟩ := h
  obtain ⟨p, e1, hg⟩ := Out.bind_ok hg
  obtain ⟨r, e2, hg⟩ := Out.bind_ok hg
  split at hg
  · rename_i k' ek
    cases hg
    have n := New.junk (H' := upd H q (.dK [])) S.sub (Gr.new hq)
    have S0 := S.new n
    have keep : ∀ {Ea Eb : Ev} {Fa Ha Fb Hb : Hp}, Stp (owA σ Ea) Fa Ha Fb Hb (owA σ Eb) → Fa q = none → ¬ owA σ Ea q → Ha q = some (.dK []) → Fb q = none ∧ ¬ owA σ Eb q ∧ Hb q = some (.dK []) := by
      intro Ea Eb Fa Ha Fb Hb st a1 a2 a3
      refine ⟨?_, fun z => (st.own q z).elim a2 fun z => by (rw [a3] at z; cases z), st.keep q _ a3 trivial a1 a2⟩
      cases z : Fb q with
      | none => rfl
      | some u => rcases st.new q u z with z | z | z
                  · exact absurd a1 z
                  · exact absurd trivial (z _ a3)
                  · exact absurd z a2
    refine ⟨τ, F, E, p.1, p.2, S0, e1, fun kk F1 H1 s1 S1 r1 => ⟨τ, F1, p.2, r.1, r.2, S1, e2, fun vv F2 H2 s2 S2 r2 => ?_⟩⟩
    obtain ⟨f1, m1, h1⟩ := keep s1 (Sim.notF S.sub hq) (S.fresh hq) zAC
    obtain ⟨f2, m2, h2⟩ := keep s2 f1 m1 h1
    have := kV_of ek r1
    subst this
    refine ⟨h2, [(k', vv)], rfl, by show 1 ≤ 15; decide, ?_⟩
    have st : Stp (owA σ E) F H F2 (upd H2 q (.dK [(k', vv)])) (owA σ r.2) := by
      have s12 := ((n.stp (ow := owA σ E)).trans s1).trans s2
      refine ⟨fun a u e hw nf ho => ?_, fun a e => ?_, s12.le, s12.new, s12.own⟩
      · rw [zAF (zAV e hq)]; exact s12.keep a u e hw nf ho
      · by_cases ha : a = q
        · rw [ha]; exact hq
        · rw [zAF ha] at e; exact s12.dom a e
    exact k q F2 _ st (S2.off f2 m2) f2 hq ⟨_, zAC, .cons r2 .nil⟩ m2
  · cases hg
noncomputable def gGet (gd gk gx:G):G:=fun E=>(gd E).bind fun p=>(gk p.2).bind fun q=>(gx q.2).bind fun r=>match dgetD p.1 q.1 with
 | some o=>.ok (o.getD r.1,r.2)
 | none=>.bad
theorem v_get {gd gk gx:G} {o kx dx:Expr} {apos cpos:Pos} (hu:X.A.units+64<cLine) (ho:VE X o gd) (hk:VE X kx gk) (hx:VE X dx gx) (m:M2 X o "get" apos kx dx cpos:=by exact ⟨rfl,rfl,rfl,rfl⟩):VE X (.Call (.Attribute o "get" apos) [kx,dx] [] cpos) (gGet gd gk gx):=(zNB (by omega) ho hk hx m).imp fun σ H Q h=>by
 obtain ⟨τ,F,E,d,E',S,hg,k⟩:=h
 obtain ⟨p,e1,hg⟩:=Out.bind_ok hg
 obtain ⟨q,e2,hg⟩:=Out.bind_ok hg
 obtain ⟨r,e3,hg⟩:=Out.bind_ok hg
 split at hg
 ·rename_i od eo
  cases hg
  refine ⟨τ,F,E,p.1,p.2,S,e1,fun v F1 H1 s1 S1 r1=>?_⟩
  have isd:∃ ad,v=.ref ad∧IsD H1 ad:=by
   generalize hy:p.1=y at eo r1
   cases y with
   | dk kvs=>cases r1 with | dk h1 _=>exact ⟨_,rfl,.inl ⟨_,S1.sub.rd h1⟩⟩
   | dt kvs=>cases r1 with | dt h1 _=>exact ⟨_,rfl,.inr ⟨_,S1.sub.rd h1⟩⟩
   | _=>cases eo
  obtain ⟨ad,rfl,hd⟩:=isd
  refine ⟨ad,rfl,hd,τ,F1,p.2,q.1,q.2,S1,e2,fun kk F2 H2 s2 S2 r2=>⟨τ,F2,q.2,r.1,r.2,S2,e3,fun z F3 H3 s3 S3 r3=>?_⟩⟩
  obtain ⟨a',ov,ea,g,ro⟩:=Rep.dget S3.sub ((r1.le s2.le).le s3.le) (r2.le s3.le) eo
  cases ea
  refine ⟨ov,g,k _ F3 H3 ((s1.trans s2).trans s3) S3 ?_⟩
  cases od with
  | none=>have:=ro.none_of; subst this; exact r3
  | some d0=>obtain ⟨w,rfl,rw'⟩:=ro.some_of; exact rw'
 ·cases hg
noncomputable def truD:D→Out Bool
 | .non=>.ok false
 | .bl b=>.ok b
 | .int i=>.ok (i != 0)
 | .lst ds=>.ok (!ds.isEmpty)
 | .tup ds=>.ok (!ds.isEmpty)
 | .str z=>few z.length (.ok ((z.length:Int) != 0))
 | _=>.bad
noncomputable def gTru (g:G):Ev→Out (Bool × Ev):=fun E=>(g E).bind fun p=>(truD p.1).bind fun b=>.ok (b,p.2)
theorem Reps.isEmpty {vs:List V} {ds:List D} (r:Reps K F vs ds):vs.isEmpty=ds.isEmpty:=by cases r <;> rfl
theorem zBT (ha:VE X a ga) (he:∀ whole,isTrue a X.env whole=(do let v ← whole; standAt a.pos; holding [v] (truthy v)):=by intro _; rfl):VT X a (gTru ga):=(zM1 ha he).imp fun σ H Q h=>by
 obtain ⟨τ,F,E,d,E',S,hg,k⟩:=h
 obtain ⟨p,e1,hg⟩:=Out.bind_ok hg
 obtain ⟨b,e2,hg⟩:=Out.bind_ok hg
 cases hg
 refine ⟨τ,F,E,p.1,p.2,S,e1,fun v F1 H1 s1 S1 r1=>⟨d,?_,k F1 H1 s1 S1⟩⟩
 generalize hy:p.1=y at e2 r1
 cases y with
 | non=>cases r1; cases e2; rfl
 | bl b=>cases r1; cases e2; rfl
 | int i=>cases r1; cases e2; rfl
 | str z =>
  cases r1
  obtain ⟨hl,e2⟩:=zB8 e2
  cases e2
  exact ⟨le4 hl,rfl⟩
 | lst ds =>
  cases e2
  obtain ⟨l,ys,rfl,h1,h2⟩:=r1.isRefL
  exact .inl ⟨ys,h1.imp S1.sub.rd id,by rw [h2.isEmpty]⟩
 | tup ds =>
  cases e2
  obtain ⟨l,ys,rfl,h2,h1⟩:=r1.tupSq
  exact .inr (.inl ⟨ys,h1 F1 H1 (.refl _) S1.sub,by rw [h2.isEmpty]⟩)
 | _=>cases e2
noncomputable def rngL (lo:Int) (n:Nat):List D:=(List.range n).map fun i:Nat=>D.int (lo+(i:Int))
theorem zHL (lo:Int) (n:Nat):Walks K (Itr lo n) F (rngL lo n):=fun i F1 H1 l s=>by
 have hl:(rngL lo n).length=n:=by simp [rngL]
 refine ⟨fun hi=>by rw [hl] at hi; exact hi,fun hi=>by rw [hl] at hi; rw [hi]; exact Nat.le_refl _,fun x H' d e ⟨e1,y⟩=>?_⟩
 subst e1 y
 unfold rngL at e
 rw [List.getElem?_map] at e
 cases q:(List.range n)[i]? with
 | none=>rw [q] at e; cases e
 | some j =>
  rw [q] at e
  have:j=i:=by
   obtain ⟨h1,h2⟩:=List.getElem?_eq_some_iff.mp q
   rw [List.getElem_range] at h2; exact h2.symm
  subst this
  cases e
  exact ⟨F1,.refl s,.int _⟩
noncomputable def zEL (i:Int):Prop:=-1000000≤i∧i≤1000000
instance (i:Int):Decidable (zEL i):=inferInstanceAs (Decidable (_∧_))
noncomputable def gRng1 (g:G):GI:=fun E=>(g E).bind fun p=>match p.1 with | .int j=>guard (zEL j) (.ok (rngL 0 j.toNat,p.2)) | _=>.bad
noncomputable def gRng2 (g g':G):GI:=fun E=>(g E).bind fun p=>(g' p.2).bind fun q=>match p.1,q.1 with | .int i,.int j=>guard (zEL i∧zEL j) (.ok (rngL i (j - i).toNat,q.2)) | _,_=>.bad
theorem zCO (hm:X.mg "range"=none) (ha:VE X a ga) (hg:Gl X "range":=by rfl) (hs:starEach [a] X.env=[(false,eval a X.env)]:=by rfl) (hs0:starEach [a] X.env=(false,eval a X.env)::starEach [] X.env:=by rfl):VI X tg (.Call (.Name "range" p) [a] [] pos) (gRng1 ga):=(zGO hg hm (zA9 ha pa_nil hs0) hs).imp fun σ H Q h=>by
 obtain ⟨τ,F,E,ds,E',S,hg,k⟩:=h
 obtain ⟨q,e1,hg⟩:=Out.bind_ok hg
 refine ⟨τ,F,E,q.1,q.2,S,e1,fun v F1 H1 s1 S1 r1=>?_⟩
 split at hg
 ·rename_i j ej
  obtain ⟨⟨g1,g2⟩,hg⟩:=zBS hg
  cases hg
  rw [ej] at r1
  cases r1
  exact ⟨j,rfl,by omega,by omega,k _ F1 H1 s1 S1 (zHL 0 _)⟩
 ·cases hg
theorem zMD (hm:X.mg "range"=none) (ha:VE X a ga) (hb:VE X b gb) (hg:Gl X "range":=by rfl) (hs:starEach [a,b] X.env=[(false,eval a X.env),(false,eval b X.env)]:=by rfl) (hs2:starEach [b] X.env=[(false,eval b X.env)]:=by rfl)
  (hs0:starEach [a,b] X.env=(false,eval a X.env)::starEach [b] X.env:=by rfl) (hs1:starEach [b] X.env=(false,eval b X.env)::starEach [] X.env:=by rfl):VI X tg (.Call (.Name "range" p) [a,b] [] pos) (gRng2 ga gb):=(zKU hg hm (zA9 ha (zA9 hb pa_nil hs1) hs0) hs hs2).imp fun σ H Q h=>by
 obtain ⟨τ,F,E,ds,E',S,hg,k⟩:=h
 obtain ⟨q,e1,hg⟩:=Out.bind_ok hg
 obtain ⟨r,e2,hg⟩:=Out.bind_ok hg
 refine ⟨τ,F,E,q.1,q.2,S,e1,fun v F1 H1 s1 S1 r1=>⟨τ,F1,q.2,r.1,r.2,S1,e2,fun u F2 H2 s2 S2 r2=>?_⟩⟩
 split at hg
 ·rename_i i j ei ej
  obtain ⟨⟨⟨g1,g2⟩,g3,g4⟩,hg⟩:=zBS hg
  cases hg
  rw [ei] at r1
  rw [ej] at r2
  cases r1; cases r2
  exact ⟨i,j,rfl,⟨by omega,by omega,by omega,by omega⟩,k _ F2 H2 (s1.trans s2) S2 (zHL i _)⟩
 ·cases hg
noncomputable def enumL (ds:List D):List D:=ds.zipIdx.map fun p=>.tup [.int (p.2:Int),p.1]
theorem zN5 {ds:List D} {i:Nat} {d:D} (e:(enumL ds)[i]?=some d):∃ d0,ds[i]?=some d0∧d=.tup [.int (i:Int),d0]:=by
 unfold enumL at e
 rw [List.getElem?_map,List.getElem?_zipIdx] at e
 cases q:ds[i]? with
 | none=>rw [q] at e; cases e
 | some d0=>rw [q] at e; cases e; exact ⟨d0,rfl,by simp⟩
noncomputable def zME (g:G):GI:=fun E=>(g E).bind fun p=>match p.1 with
 | .lst ds=>.ok (enumL ds,p.2)
 | _=>.bad
theorem zN6 (hm:X.mg "enumerate"=none) (ha:VE X a ga) (hg:Gl X "enumerate":=by rfl) (hs:starEach [a] X.env=[(false,eval a X.env)]:=by rfl) (hs0:starEach [a] X.env=(false,eval a X.env)::starEach [] X.env:=by rfl):VI X tg (.Call (.Name "enumerate" p) [a] [] pos) (zME ga):=fun pins s σ H R I h=>by
 obtain ⟨τ,F,E,ds,E',S,hg',k⟩:=h
 obtain ⟨q,e1,hg'⟩:=Out.bind_ok hg'
 have hl:∀ ds0:List D,(enumL ds0).length=ds0.length:=fun ds0=>by simp [enumL]
 split at hg'
 ·rename_i ds0 ed
  cases hg'
  refine zNX hg hm (zA9 ha pa_nil hs0) hs pins s σ H R I ⟨τ,F,E,q.1,q.2,S,e1,fun v F1 H1 s1 S1 r1=>?_⟩
  rw [ed] at r1
  obtain ⟨l,ys,rfl,h1,h2⟩:=r1.isRefL
  refine ⟨l,rfl,⟨ys,h1.imp S1.sub.rd id⟩,k _ F1 H1 s1 S1 fun i F2 H2 l2 s2=>?_⟩
  have sq:SqL X.K H2 l ys:=h1.imp (fun h=>s2.rd (l2.rd h)) id
  refine ⟨fun hi=>?_,fun hi=>⟨ys,sq,by rw [h2.length,hi,hl]; exact Nat.le_refl _⟩,fun x H' d e ⟨pp,xx,ex,hp,eH,y⟩=>?_⟩
  ·have hv:i<ys.length:=by rw [h2.length]; rw [hl] at hi; exact hi
   exact ⟨ys,ys[i],sq,by simp [hv]⟩
  ·subst ex eH
   obtain ⟨d0,z1,z2⟩:=zN5 e
   subst z2
   obtain ⟨w,w1,w2⟩:=h2.get z1
   rw [y ys sq] at w1; cases w1
   have n:=New.laid (o:=.tup [.int i,xx]) s2 hp
   exact ⟨_,n,.tup zAC (.cons (.int _) (.cons ((w2.le l2).le n.1.le) .nil))⟩
 ·cases hg'
noncomputable def zipL (ds es:List D):List D:=(ds.zip es).map fun p=>.tup [p.1,p.2]
theorem zQ0 {ds es:List D} {i:Nat} {d:D} (e:(zipL ds es)[i]?=some d):∃ d0 d1,ds[i]?=some d0∧es[i]?=some d1∧d=.tup [d0,d1]:=by
 unfold zipL at e
 rw [List.getElem?_map] at e
 cases q:(ds.zip es)[i]? with
 | none=>rw [q] at e; cases e
 | some z =>
  rw [q] at e; cases e
  obtain ⟨h1,h2⟩:=List.getElem?_zip_eq_some.mp q
  exact ⟨_,_,h1,h2,rfl⟩
noncomputable def gZip (g g':G):GI:=fun E=>(g E).bind fun p=>(g' p.2).bind fun q=>match p.1,q.1 with
 | .tup ds,.tup es=>.ok (zipL ds es,q.2)
 | _,_=>.bad
theorem zS5 (hm:X.mg "zip"=none) (ha:VE X a ga) (hb:VE X b gb) (hg:Gl X "zip":=by rfl) (hs:starEach [a,b] X.env=[(false,eval a X.env),(false,eval b X.env)]:=by rfl) (hs2:starEach [b] X.env=[(false,eval b X.env)]:=by rfl)
  (hs0:starEach [a,b] X.env=(false,eval a X.env)::starEach [b] X.env:=by rfl) (hs1:starEach [b] X.env=(false,eval b X.env)::starEach [] X.env:=by rfl):VI X tg (.Call (.Name "zip" p) [a,b] [] pos) (gZip ga gb):=(zSM hg hm (zA9 ha (zA9 hb pa_nil hs1) hs0) hs hs2).imp fun σ H Q h=>by
 obtain ⟨τ,F,E,ds,E',S,hg,k⟩:=h
 obtain ⟨q,e1,hg⟩:=Out.bind_ok hg
 obtain ⟨r,e2,hg⟩:=Out.bind_ok hg
 refine ⟨τ,F,E,q.1,q.2,S,e1,fun v F1 H1 s1 S1 r1=>⟨τ,F1,q.2,r.1,r.2,S1,e2,fun u F2 H2 s2 S2 r2=>?_⟩⟩
 split at hg
 ·rename_i ds0 es0 ei ej
  cases hg
  rw [ei] at r1
  rw [ej] at r2
  obtain ⟨l,ys,rfl,h2,h1⟩:=(r1.le s2.le).tupSq
  obtain ⟨m,zs,rfl,h4,h3⟩:=r2.tupSq
  refine ⟨l,m,rfl,⟨ys,h1 F2 H2 (.refl _) S2.sub⟩,⟨zs,h3 F2 H2 (.refl _) S2.sub⟩,k _ F2 H2 (s1.trans s2) S2 fun i F3 H3 l3 s3=>?_⟩
  have sq:=h1 F3 H3 l3 s3
  have sq2:=h3 F3 H3 l3 s3
  have hl:(zipL ds0 es0).length=min ds0.length es0.length:=by simp [zipL]
  refine ⟨fun hi=>?_,fun hi=>⟨ys,zs,sq,sq2,?_⟩,fun x H' d e ⟨pp,xx,yy,ex,hp,eH,y1,y2⟩=>?_⟩
  ·rw [hl] at hi
   have hv:i<ys.length:=by rw [h2.length]; omega
   have hw:i<zs.length:=by rw [h4.length]; omega
   exact ⟨ys,zs,ys[i],zs[i],sq,sq2,by simp [hv],by simp [hw]⟩
  ·rw [hl] at hi
   rw [h2.length,h4.length]; omega
  ·subst ex eH
   obtain ⟨d0,d1,z1,z2,z3⟩:=zQ0 e
   subst z3
   obtain ⟨w,w1,w2⟩:=h2.get z1
   obtain ⟨w',w1',w2'⟩:=h4.get z2
   rw [y1 ys sq] at w1; cases w1
   rw [y2 zs sq2] at w1'; cases w1'
   have n:=New.laid (o:=.tup [xx,yy]) s3 hp
   exact ⟨_,n,.tup zAC (.cons ((w2.le l3).le n.1.le) (.cons ((w2'.le l3).le n.1.le) .nil))⟩
 ·cases hg
noncomputable def gLR (g:G):G:=fun E=>(g E).bind fun p=>match p.1 with | .int j=>guard (0≤j∧j≤1000) (.ok (.lst (rngL 0 j.toNat),p.2)) | _=>.bad
theorem zIL {rp rpos:Pos} (hc:X.calm=true) (hm:X.mg "range"=none) (hml:X.mg "list"=none) (ha:VE X a ga) (hg:Gl X "range":=by rfl) (hgl:Gl X "list":=by rfl)
  (hs0:starEach [a] X.env=(false,eval a X.env)::starEach [] X.env:=by rfl) (hp0:(backTo rpos (starEach [] X.env)).any (·.1)=false:=by rfl)
  (he:starEach [.Call (.Name "range" rp) [a] [] rpos] X.env=(false,eval (.Call (.Name "range" rp) [a] [] rpos) X.env)::starEach [] X.env:=by rfl) (hpl:(backTo pos (starEach [] X.env)).any (·.1)=false:=by rfl) :
  FE X (.Call (.Name "list" p) [.Call (.Name "range" rp) [a] [] rpos] [] pos) (gLR ga) :=
 (zC8 (zF2 hc) hgl hml (by decide +kernel) (zA9 (zC8 zNF hg hm (by decide +kernel) (zA9 ha pa_nil hs0) (by decide) (by decide) hs0 hp0) pa_nil he) (by decide) (by decide) he hpl).imp fun σ H Q h=>by
  obtain ⟨τ,F,E,d,E',S,hg,k⟩:=h
  obtain ⟨q,e1,hg⟩:=Out.bind_ok hg
  refine ⟨τ,F,E,q.1,q.2,S,e1,fun v F1 H1 s1 S1 r1=>?_⟩
  split at hg
  ·rename_i j ej
   obtain ⟨⟨g1,g2⟩,hg⟩:=zBS hg
   cases hg
   rw [ej] at r1
   cases r1
   refine ⟨j,rfl,fun pp hp=>⟨pp,j.toNat,rfl,by rw [zAC,Int.toNat_of_nonneg g1],by omega,fun l hl=>?_⟩⟩
   have n:=New.junk (H':=upd (upd H1 pp (.rng 0 j)) l (.lst ((List.range j.toNat).map fun i:Nat=>V.int (i:Int)))) S1.sub ((Gr.new hp).trans (Gr.new hl))
   have hl1:H1 l=none:=(Gr.new hp).dom l hl
   refine k l F1 _ (s1.trans n.stp) (S1.new n) (Sim.notF S1.sub hl1) (s1.dom l hl1) ⟨_,zAC,?_⟩ (S1.fresh hl1)
   have:rngL 0 j.toNat=((List.range j.toNat).map fun i:Nat=>(i:Int)).map D.int:=by unfold rngL; rw [List.map_map]; congr 1; funext i; simp
   rw [this,show ((List.range j.toNat).map fun i:Nat=>V.int (i:Int))=((List.range j.toNat).map fun i:Nat=>(i:Int)).map V.int by rw [List.map_map]; rfl]
   exact Reps.ints _
  ·cases hg
end
end L2
namespace L2
open PySem PySem.Spec PyProof.Rows
section
variable {X:Cx} {K:PySem.W.Frag} {H₀ F H F' H':Hp} {τ:Addr} {σ:St} {E:Ev} {a b c e tg:Expr} {es:List Expr} {g ga gb gc ge:G} {gs:List G} {pos p:Pos} {x:Str} {k np:Nat} {m:Mr}
noncomputable def D.kids:D→Bool
 | .lst ds=>D.flats ds
 | .dk kvs=>D.flats (kvs.map (·.2))
 | .dt kvs=>D.flats (kvs.map (·.2))
 | _=>false
noncomputable def gBorF (is:List Nat) (g:G):G:=fun E=>(g (hide is E)).bind fun p=>if p.1.kids=true then .ok (p.1,E) else .bad
theorem RepK.flat2 {F F2:Hp} (ht:∀ a vs,F a=some (.tup vs)→F2 a=some (.tup vs)):∀ {vs:List (Key × V)} {ds:List (Key × D)},RepK K F vs ds→D.flats (ds.map (·.2))=true→RepK K F2 vs ds
 | _,_,.nil,_=>.nil
 | _,_,.cons h r,e=>by
  rw [List.map_cons,D.flats,Bool.and_eq_true] at e
  exact .cons (Rep.flat2 ht h e.1) (RepK.flat2 ht r e.2)
theorem RepT.flat2 {F F2:Hp} (ht:∀ a vs,F a=some (.tup vs)→F2 a=some (.tup vs)):∀ {vs:List (List Key × V)} {ds:List (List Int × D)},RepT K F vs ds→D.flats (ds.map (·.2))=true→RepT K F2 vs ds
 | _,_,.nil,_=>.nil
 | _,_,.cons h r,e=>by
  rw [List.map_cons,D.flats,Bool.and_eq_true] at e
  exact .cons (Rep.flat2 ht h e.1) (RepT.flat2 ht r e.2)
theorem f_bor (is:List Nat) (h:FE X e g):FE X e (gBorF is g):=by
 intro pins s σ H Q I ⟨τ,F,E,d,E',S,hg,k⟩
 obtain ⟨p,eg,hg⟩:=Out.bind_ok hg
 split at hg
 ·rename_i hl
  cases hg
  obtain ⟨S1,no⟩:=S.lend is
  refine thn (h pins s σ H (fun v H'=>∃ ad F' ow',v=.ref ad∧Stp (fun _=>False) (F1of σ E is F H) H F' H' ow'∧Sub F' H'∧F' ad=none∧H ad=none∧OwnAt X.K F' H' ad p.1) I ⟨τ,_,_,p.1,p.2,S1,eg,fun ad F' H' st S' n1 n2 ow _=>⟨ad,F',_,rfl,st.toF no,S'.sub,n1,n2,ow⟩⟩) fun u s' ⟨v,H',I',rv,ad,F',ow',ev,st,sb,n1,n2,ow⟩=>?_
  subst ev
  obtain ⟨t1,t2,t3,h1,_⟩:=S.back is st sb
  have ht:∀ a vs,F' a=some (.tup vs)→F2of σ E is F' a=some (.tup vs):=fun a vs e=>h1 a _ e fun o w ho=>⟨fun z=>by subst z; exact ho,fun z=>HO.noConfusion z⟩
  have nl:¬ Lent σ E is ad:=fun z=>by
   obtain ⟨_,⟨o,ho,_⟩,_⟩:=S.owned z.ow
   rw [n2] at ho; cases ho
  have hh:H2of σ E is H H' ad=H' ad:=by unfold H2of; rw [if_neg nl]
  refine ⟨.ref ad,_,I'.thaw t1,rv,k ad _ _ t2 t3 (by unfold F2of; rw [if_neg nl]; exact n1) n2 ?_ (S.fresh n2)⟩
  generalize hy:p.1=y at ow hl
  cases y with
  | lst ds=>obtain ⟨vs,q,r⟩:=ow; exact ⟨vs,hh.trans q,Reps.flat2 ht r hl⟩
  | dk ds=>obtain ⟨vs,q,r⟩:=ow; exact ⟨vs,hh.trans q,RepK.flat2 ht r hl⟩
  | dt ds=>obtain ⟨vs,q,r⟩:=ow; exact ⟨vs,hh.trans q,RepT.flat2 ht r hl⟩
  | _=>exact ow.elim
 ·cases hg
noncomputable def zFJ (m:Mr) (gf:G) (gs:List G):G:=fun E=>(gf E).bind fun f=>(gArgs gs f.2).bind fun p=>(m (.own true f.1::p.1.map Sl.val)).bind fun q=>.ok (q.2.1,p.2)
theorem zN7 {gf:G} (hn:gs.length+1=np) {Q:VK} (h:tV K H₀ (zFJ m gf gs) σ H Q):tCall (spV K np m) [] E0 (tCons (tF K H₀ gf) (tAr K H₀ gs)) σ H Q:=by
 obtain ⟨τ,F,E,d,E',S,hg,k⟩:=h
 obtain ⟨f,e0,hg⟩:=Out.bind_ok hg
 obtain ⟨p,e1,hg⟩:=Out.bind_ok hg
 obtain ⟨q,e2,hg⟩:=Out.bind_ok hg
 cases hg
 refine ⟨τ,F,E,f.1,f.2,S,e0,fun ad F0 H0 s0 S0 n1 n2 ow no=>⟨τ,F0,f.2,p.1,p.2,S0,e1,fun vs F1 H1 s1 S1 r1=>?_⟩⟩
 obtain ⟨o,ho,hw⟩:=ow.ho
 have k1:H1 ad=some o:=s1.keep ad o ho hw n1 no
 have f1:F1 ad=none:=s1.nF n1 ho hw no
 have ow1:OwnAt K F1 H1 ad f.1:=ow.mono s1.le (k1.trans ho.symm)
 have no1:¬ owA σ p.2 ad:=fun z=>(s1.own ad z).elim no fun z=>by (rw [ho] at z; cases z)
 rw [List.append_nil]
 refine ⟨by rw [List.length_cons,r1.length,zCL e1,hn],ad,F1,_,q.1,q.2.1,q.2.2,Sim.argsR S1.sub r1 f1 ow1,shpR,e2,fun v F2 H2 s2 S2 rr=>?_⟩
 have s2:Stp (owA ((V.ref ad::vs).map some) (.own true f.1::p.1.map Sl.val)) F1 H1 F2 H2 (owA ((V.ref ad::vs).map some) (.own true q.2.2::p.1.map Sl.val)):=s2
 have hne:∀ b,owA σ p.2 b→b≠ad:=fun b z y=>no1 (by rw [← y]; exact z)
 have Sm:Sim K H₀ τ F2 H2 σ p.2:=by
  refine ⟨S2.sub,S1.len,fun j d' z=>?_,fun j t' d' z=>?_,S1.inj⟩
  ·obtain ⟨v,h1,h2⟩:=S1.val j d' z
   exact ⟨v,h1,h2.le s2.le⟩
  ·obtain ⟨c,c1,c2,c3,c4⟩:=S1.own j t' d' z
   obtain ⟨oc,hoc,hwc⟩:=c3.ho
   have hca:c≠ad:=hne c ⟨j,t',d',z,c1⟩
   exact ⟨c,c1,s2.nF c2 hoc hwc fun y=>hca (owR y),c3.mono s2.le ((s2.keep c oc hoc hwc c2 fun y=>hca (owR y)).trans hoc.symm),c4⟩
 have s01:=s0.trans s1
 have st:Stp (owA σ E) F H F2 H2 (owA σ p.2):=by
  refine ⟨fun b u z hw' n hb=>?_,fun b z=>s01.dom b (s2.dom b z),s01.le.trans s2.le,fun b u z=>?_,s01.own⟩
  ·have hb1:=s01.keep b u z hw' n hb
   exact s2.keep b u hb1 hw' (s01.nF n z hw' hb) fun y=>by rw [owR y,n2] at z; cases z
  ·rcases s2.new b u z with y | y | y
   ·cases w:F1 b with
    | none=>exact absurd w y
    | some u'=>exact s01.new b u' w
   ·exact s01.nw y
   ·rw [owR y]; exact .inr (.inl (.none n2))
 cases hb:q.1 with
 | false =>
  rw [hb] at rr
  exact k v F2 H2 st Sm rr
 | true =>
  rw [hb] at rr
  obtain ⟨c,rfl,h1,h2,h3,h4⟩:=rr
  obtain ⟨o',ho',_⟩:=h2.ho
  have nc:∀ b,owA σ p.2 b→b≠c:=fun b z y=>by subst y; exact S1.fresh h3 z
  refine k _ (upd F2 c o') H2 ⟨st.keep,st.dom,st.le.trans (.of_gr (Gr.new h1)),fun b u z=>?_,st.own⟩ ⟨fun b u z=>?_,Sm.len,fun j d' z=>?_,fun j t' d' z=>?_,Sm.inj⟩ (h2.rep h1 ho')
  ·by_cases hb:b=c
   ·subst hb; exact .inr (.inl (.none (s01.dom b h3)))
   ·rw [zAF hb] at z; exact st.new b u z
  ·by_cases hb:b=c
   ·subst hb; rw [zAC] at z; rw [ho']; exact z
   ·rw [zAF hb] at z; exact Sm.sub b u z
  ·obtain ⟨v,y1,y2⟩:=Sm.val j d' z
   exact ⟨v,y1,y2.le (.of_gr (Gr.new h1))⟩
  ·obtain ⟨b,y1,y2,y3,y4⟩:=Sm.own j t' d' z
   exact ⟨b,y1,by rw [zAF (nc b ⟨j,t',d',z,y1⟩)]; exact y2,y3.mono (.of_gr (Gr.new h1)) rfl,y4⟩
theorem zQ1 {gf:G} (C:Cal X.prog X.w X.K X.mg X.base x k np m) (hr:Room k X.A) (hf:FE X e gf) (ha:VA X es gs) (hn:gs.length+1=np:=by rfl) (hg:Gl X x:=by rfl) (hdb:(x == ("__debug__":Str))=false:=by decide)
  (he:starEach (e::es) X.env=(false,eval e X.env)::starEach es X.env:=by rfl) (hpl:(backTo pos (starEach es X.env)).any (·.1)=false:=by rfl):VE X (.Call (.Name x p) (e::es) [] pos) (zFJ m gf gs):=by
 obtain ⟨f,fd,ps,Fn,hm,hk,hb⟩:=C
 exact (zFT Fn hr hg hm hk hb .nil pass0 (zA9 hf ha he) hdb he hpl).imp fun _ _ _ h=>zN7 hn h
theorem zS6 (hu:X.A.units+64<cLine):OpR X (compareOp .Lt) (fun x y H Q=>rI0 (fun i j=>.bl (decide (i<j))) x y H Q∨rLtT X.K x y H Q):=op_lt.or (zK3 (by omega))
theorem zIM {scope:Scope} {cl:List (Str × Addr)} {own caps:List Str} {js:List Nat} {i:Nat} {elt iter:Expr} {ifs:List Expr} {pos' spos:Pos} {gi:GI} {t:Tg} {tt:Ev→Out (Bool × Ev)} {ge:G} (n:CompNm X scope cl own caps js) (hc:X.calm=true) (hi:VI X tg iter gi)
  (hg:∀ C s H fp,VG (zAW X scope cl (own++caps) C s H fp) tg t) (ht:∀ C s H fp,VTs (zAW X scope cl (own++caps) C s H fp) ifs tt) (he:∀ C s H fp,VE (zAW X scope cl (own++caps) C s H fp) elt ge)
  (hN:X.N.Nodup) (hx:X.N[i]?=some x) (hl:X.env.scope.names.lookup x=some .local)
  (hsw:swapsWith (.ListComp elt [⟨tg,iter,ifs,0⟩] scope pos) (some (.Name x pos')) spos.line X.env=pure true)
  (hlt:t.ltn own.length=true:=by rfl) (hj:js.Nodup:=by decide) (hs:∀ x,foldedSetIterable iter X.env x=pure x:=by intro _; rfl):VS X (.Assign [.Name x pos'] (.ListComp elt [⟨tg,iter,ifs,0⟩] scope pos) spos) (gAsg (.nm i) (gComp gi own.length js t tt ge)) :=
 fun pins s σ H D' I h=>by
  refine zE7 (g:=fun H=>tG X.K H t) (tt:=fun H=>tT X.K H tt) (te:=fun H=>tV X.K H ge) n hc hi hg ht he hN hx hl hsw hs pins s σ H D' I ?_
  refine zL1 hlt hj (tF.toV ?_)
  obtain ⟨τ,F,E,r,S,hg,k⟩:=h
  obtain ⟨p,e1,hg⟩:=Out.bind_ok hg
  obtain ⟨E1,e2,hg⟩:=Out.bind_ok hg
  cases hg
  rw [gTg] at e2
  cases e2
  refine ⟨τ,F,E,p.1,p.2,S,e1,fun v F1 H1 s1 S1 r1=>?_⟩
  obtain ⟨S2,h2⟩:=S1.put (i:=i) r1
  exact k _ F1 H1 (s1.weak h2) S2
theorem Fun.cal {P:Program} {w:World} {mg:Str→Option Value} {base:Heap} {ps:List Str} {st:Stmt} {f:Addr} {fd:FuncData} (Fn:Fun K x x st f fd) (h:FnOk P w K mg base CX0 k f fd ps (spV K np m)) (hm:mg x=some (.ref f)) (hb:Binds K fd ps []):Cal P w K mg base x k np m:=⟨f,fd,ps,h,hm,Fn.kp,hb⟩
end
end L2
namespace L2
open PySem PySem.Spec PyProof.Rows
theorem mem0 {α:Type} {Pr:α→Prop}:∀ p∈([]:List α),Pr p:=fun p hp=>nomatch hp
theorem al1 {α:Type} {Pr:α→Prop} {a:α} (h:Pr a):∀ p∈[a],Pr p:=fun p hp=>by rw [List.mem_singleton.mp hp]; exact h
theorem alc {α:Type} {Pr:α→Prop} {a:α} {l:List α} (h:Pr a) (t:∀ p∈l,Pr p):∀ p∈a::l,Pr p:=fun p hp=>by
 rcases List.mem_cons.mp hp with rfl | hp
 ·exact h
 ·exact t p hp
theorem al2 {α:Type} {Pr:α→Prop} {a b:α} (h1:Pr a) (h2:Pr b):∀ p∈[a,b],Pr p:=alc h1 (al1 h2)
section
variable {X:Cx} {a b c:Expr} {ga gb:G} {pos:Pos}
theorem f_if {t:Ev→Out (Bool × Ev)} (hc:VT X c t) (ha:FE X a ga) (hb:FE X b gb):FE X (.IfExp c a b pos) (gIf t ga gb):=(zMX hc ha hb).imp fun σ H Q q=>by
 obtain ⟨τ,F,E,d,E',S,hg,k⟩:=q
 obtain ⟨p,ea,hg⟩:=Out.bind_ok hg
 refine ⟨τ,F,E,p.1,p.2,S,ea,fun F1 H1 st1 S1=>?_⟩
 by_cases hp:p.1=true
 ·rw [if_pos hp] at hg ⊢
  exact ⟨τ,F1,p.2,d,E',S1,hg,fun ad F2 H2 st2 S2 n1 n2 ow no=>k ad F2 H2 (st1.trans st2) S2 n1 (st1.dom ad n2) ow no⟩
 ·rw [if_neg hp] at hg ⊢
  exact ⟨τ,F1,p.2,d,E',S1,hg,fun ad F2 H2 st2 S2 n1 n2 ow no=>k ad F2 H2 (st1.trans st2) S2 n1 (st1.dom ad n2) ow no⟩
end
end L2
namespace L2
open PySem PySem.Spec PyProof.Rows
section
variable {X:Cx} {K:PySem.W.Frag} {H₀ F H:Hp} {e tg:Expr} {ge:G}
theorem New.froze {a:Addr} {o:Obj} {u:HO} (s:Sub F H) (h:F a=some u) (hd:isDic u):New F H (upd F a (.frz o u)) (upd H a (.frz o u)):=by
 have hh:=s a u h
 refine ⟨⟨fun b v e _ n _=>?_,fun b e=>?_,fun b v e=>?_,fun b v e=>?_,fun _ z=>z.elim⟩,fun b v e=>?_⟩
 ·rw [zAF (fun z=>by rw [z,h] at n; cases n)]; exact e
 ·by_cases hb:b=a
  ·rw [hb,zAC] at e; cases e
  ·rw [zAF hb] at e; exact e
 ·by_cases hb:b=a
  ·subst hb; rw [h] at e; cases e; exact .inr ⟨hd,o,zAC⟩
  ·exact .inl (by rw [zAF hb]; exact e)
 ·by_cases hb:b=a
  ·subst hb; exact .inl (by rw [h]; exact nofun)
  ·rw [zAF hb] at e; exact .inl (by rw [e]; exact nofun)
 ·by_cases hb:b=a
  ·subst hb; rw [zAC] at e ⊢; exact e
  ·rw [zAF hb] at e ⊢; exact s b v e
theorem New.tup {p:Addr} {vs:List V} (s:Sub F H) (h:H p=some (.tup vs)):∃ F',New F H F' H∧F' p=some (.tup vs):=by
 cases hf:F p with
 | some u =>
  have:=s p u hf
  rw [h] at this; cases this
  exact ⟨F,.refl s,hf⟩
 | none =>
  refine ⟨upd F p (.tup vs),⟨⟨fun _ _ e _ _ _=>e,fun _ e=>e,.of_gr (Gr.new hf),fun b v e=>?_,fun _ z=>z.elim⟩,fun b v e=>?_⟩,zAC⟩
  ·by_cases hb:b=p
   ·subst hb
    refine .inr (.inl fun o e' hw=>?_)
    rw [h] at e'; cases e'; exact hw
   ·rw [zAF hb] at e; exact .inl (by rw [e]; exact nofun)
  ·by_cases hb:b=p
   ·subst hb; rw [zAC] at e; rw [h]; exact e
   ·rw [zAF hb] at e; exact s b v e
noncomputable def keyT (k:List Int):D:=.tup (k.map D.int)
theorem RepT.keysAt:∀ {vs:List (List Key × V)} {ds:List (List Int × D)},RepT K F vs ds→vs.map (·.1)=ds.map fun kv=>kv.1.map Sum.inl
 | _,_,.nil=>rfl
 | _,_,.cons _ r=>by rw [List.map_cons,List.map_cons,RepT.keysAt r]
theorem RepK.keysAt:∀ {vs:List (Key × V)} {ds:List (Key × D)},RepK K F vs ds→vs.map (·.1)=ds.map (·.1)
 | _,_,.nil=>rfl
 | _,_,.cons _ r=>by rw [List.map_cons,List.map_cons,RepK.keysAt r]
theorem zEM {a:Addr} {o:Obj} {kvs:List (Key × V)} {ds:List (Key × D)} (h:F a=some (.frz o (.dK kvs))) (r:RepK K F kvs ds):Walks K (ItK a o kvs) F (ds.map fun kv=>keyD kv.1):=fun i F1 H1 l s=>by
 have hf:F1 a=some (.frz o (.dK kvs)):=by
  rcases l a _ h with z | ⟨z,_⟩
  ·exact z
  ·exact z.elim
 have hh:=s _ _ hf
 have hl:(ds.map fun kv=>keyD kv.1).length=kvs.length:=by rw [List.length_map,r.length]
 refine ⟨fun hi=>⟨by omega,hh⟩,fun hi=>⟨by omega,hh⟩,fun x H' d e ⟨e1,k,ex,ek⟩=>?_⟩
 subst e1 ex
 rw [r.keysAt,List.getElem?_map] at ek
 rw [List.getElem?_map] at e
 cases q:ds[i]? with
 | none=>rw [q] at e; cases e
 | some kv =>
  rw [q] at e ek
  cases e; cases ek
  exact ⟨F1,.refl s,zL9 _⟩
theorem zEN {a:Addr} {o:Obj} {kvs:List (List Key × V)} {ds:List (List Int × D)} (h:F a=some (.frz o (.dT kvs))) (r:RepT K F kvs ds):Walks K (Itk a o kvs) F (ds.map fun kv=>keyT kv.1):=fun i F1 H1 l s=>by
 have hf:F1 a=some (.frz o (.dT kvs)):=by
  rcases l a _ h with z | ⟨z,_⟩
  ·exact z
  ·exact z.elim
 have hh:=s _ _ hf
 have hl:(ds.map fun kv=>keyT kv.1).length=kvs.length:=by rw [List.length_map,r.length]
 refine ⟨fun hi=>⟨by omega,hh⟩,fun hi=>⟨by omega,hh⟩,fun x H' d e ⟨e1,p,k,ex,ek,ep⟩=>?_⟩
 subst e1 ex
 rw [r.keysAt,List.getElem?_map] at ek
 rw [List.getElem?_map] at e
 cases q:ds[i]? with
 | none=>rw [q] at e; cases e
 | some kv =>
  rw [q] at e ek
  cases e; cases ek
  obtain ⟨F',n,hp⟩:=New.tup s ep
  refine ⟨F',n,.tup hp ?_⟩
  rw [List.map_map]
  exact Reps.ints kv.1
noncomputable def gAnyI (g:G):GI:=fun E=>(g E).bind fun p=>match p.1 with
 | .lst ds=>.ok (ds,p.2)
 | .tup ds=>.ok (ds,p.2)
 | .dk kvs=>.ok (kvs.map fun kv=>keyD kv.1,p.2)
 | .dt kvs=>.ok (kvs.map fun kv=>keyT kv.1,p.2)
 | _=>.bad
theorem zDE (h:VE X e ge):VI X tg e (gAnyI ge):=fun pins s σ H R I q=>by
 obtain ⟨τ,F,E,ds,E',S,hg,k⟩:=q
 obtain ⟨p,e1,hg⟩:=Out.bind_ok hg
 split at hg
 ·rename_i ds' ed
  cases hg
  exact zQB h pins s σ H R I ⟨τ,F,E,ds,p.2,S,by unfold gSq; rw [e1]; show (match p.1 with | .lst ds=>Out.ok (ds,p.2) | _=>.bad)=_; rw [ed],k⟩
 ·rename_i ds' ed
  cases hg
  exact zSS h pins s σ H R I ⟨τ,F,E,ds,p.2,S,by unfold gTp; rw [e1]; show (match p.1 with | .tup ds=>Out.ok (ds,p.2) | _=>.bad)=_; rw [ed],k⟩
 ·rename_i kvs ed
  cases hg
  -- which of both it is shows when the value is there
  refine thn (h pins s σ H (fun x H1=>∃ F1,Stp (owA σ E) F H F1 H1 (owA σ p.2)∧Sim X.K X.H₀ τ F1 H1 σ p.2∧Rep X.K F1 x (.dk kvs)) I ⟨τ,F,E,p.1,p.2,S,e1,fun v F1 H1 s1 S1 r1=>⟨F1,s1,S1,by rw [← ed]; exact r1⟩⟩) fun v s1 ⟨x,H1,I1,r1,F1,st,S1,rr⟩=>?_
  cases rr with
  | dk hr r =>
   rename_i a kv
   cases r1
   rcases hr with hr | ⟨o,hr⟩
   ·have ha:=S1.sub _ _ hr
    obtain ⟨o,ho,I2⟩:=I1.freezeK ha
    obtain ⟨es,ep,rw',z1,z2,z3⟩:=zED (I1.hok a _ ha)
    obtain ⟨o',q1,q2,q3⟩:=id rw'.ex
    rw [ho] at q1; cases q1
    have n:=New.froze (o:=o) S1.sub hr trivial
    refine zD1 rw' fun h' kk ki=>?_
    refine ⟨s1.heap.objs.size,[s1.heap.objs.size],_,_,_,rfl,I2.kept (t':=s1.toks) kk,zFA a _ o kv es ep q3 z1,ki,fun b hb=>?_,k _ _ _ (st.trans n.stp) (S1.new n) (zEM zAC (r.le n.1.le))⟩
    have e:b=s1.heap.objs.size:=by simpa using hb
    subst e
    exact I2.fpOk (Nat.le_refl _) (I2.hok.fresh (Nat.le_refl _))
   ·have ha:=S1.sub _ _ hr
    obtain ⟨ho,hx⟩:=I1.hok a _ ha
    obtain ⟨es,ep,rw',z1,z2,z3⟩:=zED hx
    obtain ⟨o',q1,q2,q3⟩:=id rw'.ex
    rw [ho] at q1; cases q1
    refine zD1 rw' fun h' kk ki=>?_
    refine ⟨s1.heap.objs.size,[s1.heap.objs.size],_,_,_,rfl,I1.kept (t':=s1.toks) kk,zFA a _ o kv es ep q3 z1,ki,fun b hb=>?_,k _ _ _ st S1 (zEM hr r)⟩
    have e:b=s1.heap.objs.size:=by simpa using hb
    subst e
    exact I1.fpOk (Nat.le_refl _) (I1.hok.fresh (Nat.le_refl _))
 ·rename_i kvs ed
  cases hg
  refine thn (h pins s σ H (fun x H1=>∃ F1,Stp (owA σ E) F H F1 H1 (owA σ p.2)∧Sim X.K X.H₀ τ F1 H1 σ p.2∧Rep X.K F1 x (.dt kvs)) I ⟨τ,F,E,p.1,p.2,S,e1,fun v F1 H1 s1 S1 r1=>⟨F1,s1,S1,by rw [← ed]; exact r1⟩⟩) fun v s1 ⟨x,H1,I1,r1,F1,st,S1,rr⟩=>?_
  cases rr with
  | dt hr r =>
   rename_i a kv
   cases r1
   rcases hr with hr | ⟨o,hr⟩
   ·have ha:=S1.sub _ _ hr
    obtain ⟨o,ho,I2⟩:=I1.freeze ha
    obtain ⟨es,ep,rw',z1,z2,z3⟩:=zE8 (I1.hok a _ ha)
    obtain ⟨o',q1,q2,q3⟩:=id rw'.ex
    rw [ho] at q1; cases q1
    have n:=New.froze (o:=o) S1.sub hr trivial
    refine zD1 rw' fun h' kk ki=>?_
    refine ⟨s1.heap.objs.size,[s1.heap.objs.size],_,_,_,rfl,I2.kept (t':=s1.toks) kk,zG6 a _ o kv es ep q3 z1,ki,fun b hb=>?_,k _ _ _ (st.trans n.stp) (S1.new n) (zEN zAC (r.le n.1.le))⟩
    have e:b=s1.heap.objs.size:=by simpa using hb
    subst e
    exact I2.fpOk (Nat.le_refl _) (I2.hok.fresh (Nat.le_refl _))
   ·have ha:=S1.sub _ _ hr
    obtain ⟨ho,hx⟩:=I1.hok a _ ha
    obtain ⟨es,ep,rw',z1,z2,z3⟩:=zE8 hx
    obtain ⟨o',q1,q2,q3⟩:=id rw'.ex
    rw [ho] at q1; cases q1
    refine zD1 rw' fun h' kk ki=>?_
    refine ⟨s1.heap.objs.size,[s1.heap.objs.size],_,_,_,rfl,I1.kept (t':=s1.toks) kk,zG6 a _ o kv es ep q3 z1,ki,fun b hb=>?_,k _ _ _ st S1 (zEN hr r)⟩
    have e:b=s1.heap.objs.size:=by simpa using hb
    subst e
    exact I1.fpOk (Nat.le_refl _) (I1.hok.fresh (Nat.le_refl _))
 ·cases hg
end
theorem walk_v {l:PySem.W.OpenLaw} {q:Program} {loose:List Str} {XP:(Str→Option Value)→Heap→Prop} {YP:World→Heap→Prop} {d:DefRec} {K:Params→PySem.W.Frag} {lv:Nat} {m:Mr} (hn:l.most=some 63) (hdf:d.params.defaults=[]) (hr:Room lv callerA)
  (hY:∀ (w:World) (h:Heap),YP w h→(K w.params).In h) (hm:∀ ns:List Int,ns.length≤63→∃ b d',m [.val (.lst (ns.map D.int))]=.ok (b,.bl true,d'))
  (F:∀ (w:World) (mg:Str→Option Value) (fa:Addr) (h:Heap),(K w.params).In h→h.Ns mainGlobals mg→mg d.name=some (.ref fa) →
   ∃ fd:FuncData,(∀ (s:Shared) (u:Value),BindsTo s fd ⟨[u],[]⟩ [("script",u)])∧∀ base:Heap,(K w.params).In base→base.Ns mainGlobals mg→FnOk l.prog w (K w.params) mg base CX0 lv fa fd ["script"] (spV (K w.params) 1 m)) :
  PySem.W.WalkO q loose XP YP l.row.toRowW d [] (fun f vs=>PySem.call f vs) :=
 L2.walk_of (n:=63) (k:=lv) (x:="script") (CX:=fun _=>CX0) (sp:=fun w=>spV (K w.params) 1 m) hn (by decide) hdf hr hY F (fun w H a ns hl _ hS=>by
  obtain ⟨b,d',e⟩:=hm ns hl
  refine ⟨rfl,0,H,_,b,_,d',⟨fun _ _ z=>z,rfl,fun i d0 z=>?_,fun i t d0 z=>?_,fun i j t u d1 d2 a' z=>?_⟩,fun i t d0 z=>?_,e,fun v F' H' st S r=>?_⟩
  ·cases i with
   | zero=>cases z; exact ⟨_,rfl,.lst hS (Reps.ints ns)⟩
   | succ i=>simp at z
  ·cases i with
   | zero=>cases z
   | succ i=>simp at z
  ·cases i with
   | zero=>cases z
   | succ i=>simp at z
  ·cases i with
   | zero=>cases z
   | succ i=>simp at z
  ·cases b with
   | false=>cases r; rfl
   | true=>obtain ⟨_,_,_,ow,_⟩:=r; exact ow.elim) fun _ _ _ _ _ z=>z
end L2
namespace My
open PySem L2
noncomputable def top (i:Nat):Stmt:=PySem.Challenge.pw_waymusts_k04_reached_and_turned.main.body.getD i (.Pass ⟨0,0,0,0⟩)
structure Bt (mg:Str→Option Value):Prop where
 b_all:mg "all"=none
 b_bool:mg "bool"=none
 b_enumerate:mg "enumerate"=none
 b_int:mg "int"=none
 b_isinstance:mg "isinstance"=none
 b_len:mg "len"=none
 b_list:mg "list"=none
 b_min:mg "min"=none
 b_range:mg "range"=none
 b_sorted:mg "sorted"=none
 b_tuple:mg "tuple"=none
 b_zip:mg "zip"=none
 k_MOST_LANES:∃ t,mg "MOST_LANES"=some (Value.int 120 t)
 k_MOST_PLACES:∃ t,mg "MOST_PLACES"=some (Value.int 24 t)
noncomputable abbrev zBX:Stmt:=top 3
noncomputable abbrev zCU:Stmt:=top 7
noncomputable abbrev zAY:Stmt:=top 9
noncomputable abbrev zBG:Stmt:=top 14
noncomputable abbrev zBH:Stmt:=top 15
noncomputable abbrev zBI:Stmt:=top 16
noncomputable abbrev zBB:Stmt:=top 19
noncomputable abbrev zBY:Stmt:=top 4
noncomputable abbrev zBC:Stmt:=top 10
noncomputable abbrev zAX:Stmt:=top 17
noncomputable abbrev zCA:Stmt:=top 5
noncomputable abbrev zA0:Stmt:=top 11
noncomputable abbrev zBZ:Stmt:=top 18
noncomputable abbrev zCV:Stmt:=top 6
noncomputable abbrev zCB:Stmt:=top 12
noncomputable abbrev s_law:Stmt:=top 20
end My
namespace My
open PySem L2
theorem zQ2 {J:It} {n:Nat} {g:TG} {tt:TT} {te:TE} {acc:Addr} {σ₀:St} {N:St→Hp→Prop} {H1:Hp} (Pv:Nat→List V→St→Hp→Prop) (h0:Pv 0 [] σ₀ (upd H1 acc (.lst []))) (ha:∀ i ys σ H,i≤n→Pv i ys σ H→H acc=some (.lst ys))
  (hs:∀ i ys σ H,i<n→Pv i ys σ H→J.go i H∧∀ x H',J.yld i H x H'→g x σ H' fun σ2 H2=>tt σ2 H2 fun b H3 =>
   if b=true then te σ2 H3 fun y H4=>H4 acc=some (.lst ys)∧ys.length<sizeLine∧∃ m',m'<n - i∧m'=n - (i+1)∧i+1≤n∧Pv (i+1) (ys++[y]) σ2 (upd H4 acc (.lst (ys++[y])))
   else ∃ m',m'<n - i∧m'=n - (i+1)∧i+1≤n∧Pv (i+1) ys σ2 H3)
  (hd:∀ ys σ H,Pv n ys σ H→J.stop n H∧N σ H) (mg:∀ x σ H P P',(∀ σ2 H2,P σ2 H2→P' σ2 H2)→g x σ H P→g x σ H P') (mt:∀ σ H P P',(∀ b H2,P b H2→P' b H2)→tt σ H P→tt σ H P') (me:∀ σ H P P',(∀ v H2,P v H2→P' v H2)→te σ H P→te σ H P'):tWalkC J g tt (tEmit acc te) σ₀ (upd H1 acc (.lst [])) N:=by
 refine ⟨fun i m σ H=>m=n - i∧i≤n∧∃ ys,Pv i ys σ H,⟨n,by omega,Nat.zero_le _,[],h0⟩,?_⟩
 rintro i m σ H ⟨rfl,hi,ys,p⟩
 by_cases hlt:i<n
 ·obtain ⟨go,st⟩:=hs i ys σ H hlt p
  refine .inr ⟨go,fun x H' y=>mg _ _ _ _ _ (fun σ2 H2 q=>mt _ _ _ _ (fun b H3 q=>?_) q) (st x H' y)⟩
  cases b with
  | true =>
   rw [if_pos rfl] at q ⊢
   exact me _ _ _ _ (fun v H4 ⟨q1,q2,m',a,b,c,q3⟩=>⟨ys,q1,q2,m',a,b,c,_,q3⟩) q
  | false =>
   rw [if_neg Bool.false_ne_true] at q ⊢
   obtain ⟨m',a,b,c,q3⟩:=q
   exact ⟨m',a,b,c,_,q3⟩
 ·have e:i=n:=by omega
  subst e
  exact .inl (hd ys σ H p)
theorem zC3 {α:Type} (f:α→Bool) {l:List α} {i:Nat} {x:α} (h:l[i]?=some x):(l.take (i+1)).filter f=(l.take i).filter f++(if f x=true then [x] else []):=by
 obtain ⟨hi,e⟩:=List.getElem?_eq_some_iff.mp h
 rw [List.take_succ_eq_append_getElem hi,List.filter_append,e]
 by_cases hf:f x=true
 ·simp [hf]
 ·simp [hf]
theorem zJH {K:PySem.W.Frag} {H:Hp}:∀ {zs:List V} {ps:List (Int × Int)} {i:Nat} {z:V},PairsAt K H zs ps→zs[i]?=some z→∃ (q:Addr) (x y:Int),z=.ref q∧SqT K H q [.int x,.int y]∧ps[i]?=some (x,y)
 | _,_,_,_,.nil,h=>by simp at h
 | _,_,0,_,.cons ⟨q,e,s⟩ t,h=>by simp at h; subst h; exact ⟨q,_,_,e,s,rfl⟩
 | _,_,i+1,_,.cons _ t,h=>by simp at h; simpa using zJH t h
theorem Gr.acc {H1 H':Hp} {acc:Addr} {o:HO} (g:Gr H1 H') (h:H1 acc=none):Gr H1 (upd H' acc o):=fun b u e=>by
 rw [zAF (zAV e h)]; exact g b u e
noncomputable def NetV (K:PySem.W.Frag) (H:Hp) (q:Addr) (many:Int) (ps:List (Int × Int)):Prop:=∃ (t:Addr) (zs:List V),SqT K H q [.int many,.ref t]∧SqT K H t zs∧PairsAt K H zs ps
noncomputable def succs (ps:List (Int × Int)) (j:Nat):List Int:=(ps.filter fun p=>decide (p.1=(j:Int))).map (·.2)
noncomputable def zQ3 (H:Hp) (L:Addr) (rs:List Addr) (many:Int) (ps:List (Int × Int)):Prop:=H L=some (.lst (rs.map V.ref))∧(rs.length:Int)=many∧∀ (j:Nat) (hj:j<rs.length),H rs[j]=some (.lst ((succs ps j).map V.int))
noncomputable def zQ4 (K:PySem.W.Frag):Sp:=fun vs H Q _=>∃ (q:Addr) (many:Int) (ps:List (Int × Int)),vs=[.ref q]∧NetV K H q many ps∧ps.length≤1000∧0≤many∧many≤100∧(∀ p∈ps,0≤p.1∧p.1<many) ∧
 ∀ (L:Addr) (H':Hp) (rs:List Addr),Gr H H'→zQ3 H' L rs many ps→H L=none→(∀ r∈rs,H r=none)→Q (.ref L) H'
section
variable {P:Program} {w:World} {K:PySem.W.Frag} {mg:Str→Option Value} {base:Heap}
theorem scNX:FnScope ["net","many","lanes","nexts","one","other"] ["net"] (zAH zAY):=⟨rfl,rfl,rfl,by decide +kernel,rfl,by decide +kernel,by decide +kernel⟩
theorem ndPl:((["place"]:List Str)++([]:List Str)).Nodup:=by decide +kernel
theorem zN8 {f:Addr} {fd:FuncData} (F:Fun K "next_places" "next_places" zAY f fd) (T:Bt mg):FnOk P w K mg base CX0 1 f fd ["net"] (zQ4 K):=by
 refine F.ok scNX (fun vs H Q E h=>?_) (fun cdv A outer s H vs Q E hr h=>?_)
 ·obtain ⟨q,many,ps,rfl,_⟩:=h
  rfl
 ·obtain ⟨q,many,ps,rfl,⟨t,zs,hq,ht,hps⟩,hpl,hm0,hm1,hrg,q0⟩:=h
  refine ⟨_,zD0 (zKS (pv 0) (zKR rfl (zC6 (zDG (i:=1) scNX.nd rfl (Or.inl rfl)) (zC6 (zDG (i:=2) scNX.nd rfl (Or.inl rfl)) pgs_nil))))
   (zD0 (zE7 (i:=3) (own:=["place"]) (caps:=[]) (js:=[]) ⟨rfl,rfl,by decide +kernel,by decide +kernel,by decide +kernel,rfl,mem0,rfl,mem0,mem0,by decide +kernel,by decide +kernel⟩ rfl (zGO rfl T.b_range (zA9 (pv 1) pa_nil))
     (fun C s H fp=>zDG (i:=0) ndPl rfl (Or.inl rfl) (Or.inr rfl)) (fun C s H fp=>pts_nil) (fun C s H fp=>zKZ pa_nil) scNX.nd rfl rfl rfl)
   (zD0 (zOP PassesOwn.never rfl (zOO (pv 2)) (zKR rfl (zC6 (zDG (i:=4) scNX.nd rfl (Or.inl rfl)) (zC6 (zDG (i:=5) scNX.nd rfl (Or.inl rfl)) pgs_nil)))
    (zHY (zKP (pe_bm PySem.F.plainAttrs_list PySem.F.slot_list_append PySem.F.type_list_append zD8 (pe_ix ix_list (pv 3) (pv 4) (fun _ _=>rfl)) (zA9 (pv 5) pa_nil)))))
   (zHY (zKQ (pv 3))))),?_⟩
  have sm:∀ n:Nat,n≤1000→n≤sizeLine:=fun n h=>Nat.le_of_lt (zEA h)
  have hzl:zs.length=ps.length:=Paired.length hps
  refine ⟨_,rfl,q,_,rfl,hq,rfl,_,_,rfl,_,_,rfl,rfl,?_⟩
  refine ⟨_,rfl,_,rfl,by omega,by omega,fun acc hacc=>?_⟩
  refine zQ2 (J:=Itr 0 many.toNat) (g:=gName 0) (tt:=tYes) (te:=tLst tNil) (n:=many.toNat) (fun i ys σ H'=>∃ (u:Option V) (rs:List Addr),σ=[u]∧ys=rs.map V.ref∧rs.length=i∧rs.Nodup∧(∀ r∈rs,H' r=some (.lst [])∧H r=none∧r≠acc)∧H' acc=some (.lst ys)∧Gr H H')
   ⟨none,[],rfl,rfl,rfl,List.nodup_nil,mem0,zAC,Gr.new hacc⟩ (fun i ys σ H' _ ⟨_,_,_,_,_,_,_,h,_⟩=>h) ?_ ?_ (fun x σ H P P' h q=>h _ _ q) (fun σ H P P' h q=>h _ _ q) (fun σ H P P' h q=>⟨q.1,fun p hp=>h _ _ (q.2 p hp)⟩)
  ·rintro i ys σ H' hi ⟨u,rs,rfl,rfl,hl,nd,hrs,ha,gr⟩
   refine ⟨hi,?_⟩
   rintro x H'' ⟨rfl,rfl⟩
   refine ⟨sm 0 (by decide),fun pt hpt=>?_⟩
   have hpa:pt≠acc:=Ne.symm (zAV ha hpt)
   have hp0:H pt=none:=by
    cases e:H pt with
    | none=>rfl
    | some o=>have:=gr _ _ e; rw [hpt] at this; cases this
   have hnr:pt∉rs:=fun z=>by have:=(hrs pt z).1; rw [hpt] at this; cases this
   refine ⟨Gr.new hpt _ _ ha,zEA (by rw [List.length_map]; omega),_,by omega,rfl,by omega,_,rs++[pt],rfl,by simp,by simp [hl],?_,fun r hr'=>?_,zAC,Gr.acc (gr.trans (Gr.new hpt)) hacc⟩
   ·rw [List.nodup_append]
    exact ⟨nd,List.nodup_cons.mpr ⟨by simp,List.nodup_nil⟩,fun a ha' b hb'=>by rw [List.mem_singleton.mp hb']; exact fun z=>hnr (z ▸ ha')⟩
   ·rcases List.mem_append.mp hr' with h | h
    ·obtain ⟨h1,h2,h3⟩:=hrs r h
     exact ⟨by rw [zAF h3,zAF (zAV h1 hpt)]; exact h1,h2,h3⟩
    ·rw [List.mem_singleton.mp h]
     exact ⟨by rw [zAF hpa,zAC],hp0,hpa⟩
  ·rintro ys σ H2 ⟨u,rs,rfl,rfl,hl,nd,hrs,ha,gr⟩
   refine ⟨Nat.le_refl _,?_⟩
   refine ⟨_,rfl,t,rfl,⟨_,ht.gr gr⟩,zPM (K:=K) (a:=t) (xs:=zs) (fun i σ H3=>∃ u4 u5:Option V,σ=[some (.ref q),some (.int many),some (.ref t),some (.ref acc),u4,u5]∧H3 acc=some (.lst (rs.map V.ref))∧(∀ (j:Nat) (hj:j<rs.length),H3 rs[j]=some (.lst ((succs (ps.take i) j).map V.int)))∧Gr H H3)
    ⟨none,none,rfl,ha,fun j hj=>(hrs _ (List.getElem_mem hj)).1,gr⟩ (fun i σ H3 _ ⟨_,_,_,_,_,g⟩=>ht.gr g) ?_ ?_⟩
   ·rintro i z σ H3 hi ⟨u4,u5,rfl,ha3,hr3,g3⟩
    obtain ⟨pq,x,y,rfl,hpq,hpi⟩:=zJH (hps.gr g3) hi
    obtain ⟨x0,x9⟩:=hrg _ (List.mem_of_getElem? hpi)
    have hxl:x.toNat<rs.length:=by rw [hl]; have:=x9; have:=x0; simp only at *; omega
    have hxc:((x.toNat:Nat):Int)=x:=by simp only at x0; omega
    have hat:atI (rs.map V.ref) x=some (.ref rs[x.toNat]):=by
     have z:=zK5 (xs:=rs.map V.ref) (j:=x.toNat) (v:=.ref rs[x.toNat]) (by rw [List.getElem?_map,List.getElem?_eq_getElem hxl]; rfl)
     rw [hxc] at z
     exact z
    have hil:=(List.getElem?_eq_some_iff.mp hpi).1
    have hsl:(succs (ps.take i) x.toNat).length≤1000:=by
     unfold succs
     rw [List.length_map]
     have h1:=List.length_filter_le (fun p:Int × Int=>decide (p.1=((x.toNat:Nat):Int))) (ps.take i)
     rw [List.length_take] at h1
     omega
    refine ⟨pq,_,rfl,hpq,rfl,_,_,rfl,_,_,rfl,rfl,?_⟩
    refine ⟨_,rfl,_,rfl,acc,_,_,_,rfl,rfl,SqL.of ha3,hat,.inl ⟨rfl,_,SqL.of (hr3 _ hxl)⟩,_,rfl,rs[x.toNat],_,_,rfl,rfl,hr3 _ hxl,zEA (by rw [List.length_map]; exact hsl),_,_,rfl,?_,fun j hj=>?_,?_⟩
    ·rw [zAF (Ne.symm (hrs _ (List.getElem_mem hxl)).2.2)]
     exact ha3
    ·have hf:=zC3 (fun p:Int × Int=>decide (p.1=(j:Int))) hpi
     by_cases hjx:j=x.toNat
     ·subst hjx
      rw [zAC]
      unfold succs
      rw [hf,if_pos (decide_eq_true (show x=((x.toNat:Nat):Int) from hxc.symm))]
      simp
     ·have hne:rs[j]≠rs[x.toNat]:=fun z=>by
       rcases Nat.lt_or_gt_of_ne hjx with h | h
       ·exact List.pairwise_iff_getElem.mp nd _ _ hj hxl h z
       ·exact List.pairwise_iff_getElem.mp nd _ _ hxl hj h z.symm
      rw [zAF hne,hr3 j hj]
      unfold succs
      rw [hf,if_neg (by simp only [decide_eq_true_eq]; omega),List.append_nil]
    ·exact Gr.acc g3 (hrs _ (List.getElem_mem hxl)).2.1
   ·rintro σ H3 ⟨u4,u5,rfl,ha3,hr3,g3⟩
    rw [hzl,List.take_length] at hr3
    exact ⟨_,rfl,q0 acc H3 rs g3 ⟨ha3,by rw [hl]; omega,hr3⟩ hacc fun r hr'=>(hrs r hr').2.1⟩
end
noncomputable def rowsD (many:Int) (ps:List (Int × Int)):D:=.lst ((List.range many.toNat).map fun j=>.lst ((succs ps j).map D.int))
noncomputable def netZ (many:Int) (ps:List (Int × Int)):D:=.tup [.int many,.tup (ps.map pairD)]
noncomputable def nxC (sl:Ev) (q:Int × List (Int × Int)):Prop:=sl=[.val (netZ q.1 q.2)]∧0≤q.1∧q.1≤100∧q.2.length≤1000∧∀ p∈q.2,0≤p.1∧p.1<q.1
open Classical in
noncomputable def zAS:Mr:=fun sl=>if h:∃ q,nxC sl q then .ok (false,rowsD h.choose.1 h.choose.2,.non) else .bad
theorem nx_of {sl:Ev} {r:Bool × D × D} (h:zAS sl=.ok r):∃ many ps,nxC sl (many,ps)∧r=(false,rowsD many ps,.non):=by
 unfold zAS at h
 by_cases e:∃ q,nxC sl q
 ·rw [dif_pos e] at h; cases h; exact ⟨_,_,e.choose_spec,rfl⟩
 ·rw [dif_neg e] at h; cases h
theorem nx_ok {many:Int} {ps:List (Int × Int)} (h:nxC [.val (netZ many ps)] (many,ps)):zAS [.val (netZ many ps)]=.ok (false,rowsD many ps,.non):=by
 have e:∃ q,nxC [.val (netZ many ps)] q:=⟨_,h⟩
 unfold zAS
 rw [dif_pos e]
 have z:=e.choose_spec.1
 generalize e.choose=q at z
 injection z with z _
 injection z with z
 injection z with z
 injection z with z1 z2
 injection z1 with z1
 injection z2 with z2 _
 injection z2 with z2
 have:=congrArg zCN z2
 rw [zCH,zCH] at this
 injection this with this
 rw [← z1,← this]
theorem Reps.pairsAt {K:PySem.W.Frag} {F H:Hp} (s:Sub F H):∀ {ps:List (Int × Int)} {ys:List V},Reps K F ys (ps.map pairD)→PairsAt K H ys ps:=fun r=>Paired.mapP (r.prs s) fun _ _ ⟨q,e,h⟩=>⟨q,e,SqT.of h⟩
theorem zE0 {P:Program} {w:World} {K:PySem.W.Frag} {mg:Str→Option Value} {base:Heap} {f:Addr} {fd:FuncData} (Fn:Fun K "next_places" "next_places" zAY f fd) (T:Bt mg):FnOk P w K mg base CX0 1 f fd ["net"] (spV K 1 zAS) :=
 FnOk.imp (zN8 Fn T) fun vs H Q E h=>by
  obtain ⟨hl,τ,F,sl,b,d,d',S,sh,hm,k⟩:=h
  obtain ⟨many,ps,⟨rfl,g1,g2,g3,g4⟩,er⟩:=nx_of hm
  cases er
  obtain ⟨v,e1,r⟩:=S.val 0 _ rfl
  obtain ⟨v',rfl⟩:=List.length_eq_one_iff.mp hl
  cases e1
  obtain ⟨q,ws,rfl,r2,sq⟩:=r.tupSq
  cases r2 with
  | cons ra r2 =>
   cases r2 with
   | cons rb r2 =>
    cases r2; cases ra
    obtain ⟨t,zs,rfl,r3,sq3⟩:=rb.tupSq
    refine ⟨q,many,ps,rfl,⟨t,zs,sq F H (.refl _) S.sub,sq3 F H (.refl _) S.sub,Reps.pairsAt S.sub r3⟩,g3,g1,g2,g4,fun L H' rs gr na hL hrs=>?_⟩
    have n:=New.gro (F:=F) S.sub gr
    refine k _ _ _ n.stp (S.new n) ?_
    obtain ⟨n1,n2,n3⟩:=na
    have hL':gro F H H' L=some (.lst (rs.map V.ref)):=by rw [zIE hL]; exact n1
    refine .lst (.inl (.inl hL')) ?_
    have key:∀ (l:List Addr) (o:Nat),(∀ r∈l,H r=none)→(∀ (j:Nat) (hj:j<l.length),H' l[j]=some (.lst ((succs ps (o+j)).map V.int))) →
      Reps K (gro F H H') (l.map V.ref) ((List.range' o l.length).map fun j=>D.lst ((succs ps j).map D.int)):=by
     intro l
     induction l with
     | nil=>intro o _ _; exact .nil
     | cons a l ih =>
      intro o h1 h2
      rw [List.map_cons,List.length_cons,List.range'_succ,List.map_cons]
      refine .cons ?_ (ih (o+1) (fun r hr=>h1 r (List.mem_cons_of_mem _ hr)) fun j hj=>?_)
      ·have:=h2 0 (by simp)
       have hA':gro F H H' a=some (.lst ((succs ps o).map V.int)):=by rw [zIE (h1 a List.mem_cons_self)]; simpa using this
       exact .lst (.inl (.inl hA')) (Reps.ints _)
      ·have:=h2 (j+1) (by simp; omega)
       rw [show o+1+j=o+(j+1) by omega]
       simpa using this
    have:=key rs 0 hrs (by simpa using n3)
    rw [show rs.length=many.toNat by omega] at this
    rw [List.range_eq_range']
    exact this
end My
namespace My
open PySem L2
noncomputable def zFK:GS :=
 (gRet (gAnd (gInst "int" (gVar 0)) (gNot (gInst "bool" (gVar 0)))))
noncomputable def zBD:Mr:=mkFn 1 zFK
theorem zKG:FnScope ["thing"] ["thing"] (zAH zBX):=⟨rfl,rfl,rfl,by decide +kernel,rfl,by decide +kernel,by decide +kernel⟩
theorem zIN {P:Program} {w:World} {K:PySem.W.Frag} {mg:Str→Option Value} {base:Heap} {f:Addr} {fd:FuncData} (Fn:Fun K "is_whole" "is_whole" zBX f fd) (T:Bt mg) :FnOk P w K mg base CX0 1 f fd ["thing"] (spV K 1 zBD) :=
 fn_v Fn zKG fun cdv A outer s H E hr=>by
  have hu:=hr.units
  unfold zFK
  exact (zAK (zAZ (v_and (zFI zQX T.b_isinstance T.b_int (by decide +kernel) (v_var 0)) (v_one (v_not (zFI zN4 T.b_isinstance T.b_bool (by decide +kernel) (v_var 0)))))))
noncomputable def zJI:GS :=
 (gSeq (gAsg (.tp [(.nm 1),(.nm 2)]) (gVar 0))
 (gRet (gTup' [(gVar 1),(gN tupD [(gN sortD [(gComp (gAnyI (gVar 2)) 2 [] (.tp [(.nm 0),(.nm 1)]) gYes (gTup' [(gVar 1),(gVar 0)]))])])])))
noncomputable def zBU:Mr:=mkFn 3 zJI
theorem scturned:FnScope ["net","many","lanes"] ["net"] (zAH zCU):=⟨rfl,rfl,rfl,by decide +kernel,rfl,by decide +kernel,by decide +kernel⟩
theorem zMF {P:Program} {w:World} {K:PySem.W.Frag} {mg:Str→Option Value} {base:Heap} {f:Addr} {fd:FuncData} (Fn:Fun K "turned" "turned" zCU f fd) (T:Bt mg) :FnOk P w K mg base CX0 1 f fd ["net"] (spV K 1 zBU) :=
 fn_v Fn scturned fun cdv A outer s H E hr=>by
  have hu:=hr.units
  unfold zJI
  exact (zAD (zLW (v_var 0) (zDB rfl (zAR (zAN (i:=1) scturned.nd rfl (Or.inl rfl)) (zAR (zAN (i:=2) scturned.nd rfl (Or.inl rfl)) zCF))))
   (zAK (zAZ (v_tup (zAA (v_var 1) (zAA (zDM T.b_tuple (zAA (FE.ve (zD2 T.b_sorted (zAA (FE.ve (zEI (own:=["one","other"]) (caps:=[]) (js:=[]) ⟨rfl,rfl,by decide +kernel,by decide +kernel,by decide +kernel,rfl,mem0,rfl,mem0,mem0,by decide +kernel,by decide +kernel⟩ rfl (zDE (v_var 2)) (fun C s H fp=>(zDB rfl (zAR (zAN (i:=0) (by decide +kernel:((["one","other"]:List Str)++([]:List Str)).Nodup) rfl (Or.inl rfl) (Or.inr rfl)) (zAR (zAN (i:=1) (by decide +kernel:((["one","other"]:List Str)++([]:List Str)).Nodup) rfl (Or.inl rfl) (Or.inr rfl)) zCF)))) (fun C s H fp=>zDJ) (fun C s H fp=>(v_tup (zAA (v_var 1) (zAA (v_var 0) zAE)))))) zAE))) zAE)) zAE))))))
noncomputable def zEO:GS :=
 (gSeq (gIfS (gB (g2 ltD (gVar 1) (gN lenD [(gVar 0)])))
 (gRet (g2 ixD (gVar 0) (gVar 1)))
 gNx)
 (gRet (gC (.int 0))))
noncomputable def zBJ:Mr:=mkFn 2 zEO
theorem zIO:FnScope ["script","k"] ["script","k"] (zAH zBG):=⟨rfl,rfl,rfl,by decide +kernel,rfl,by decide +kernel,by decide +kernel⟩
theorem zHM {P:Program} {w:World} {K:PySem.W.Frag} {mg:Str→Option Value} {base:Heap} {f:Addr} {fd:FuncData} (Fn:Fun K "_law_cell" "_law_cell" zBG f fd) (T:Bt mg) :FnOk P w K mg base CX0 1 f fd ["script","k"] (spV K 2 zBJ) :=
 fn_v Fn zIO fun cdv A outer s H E hr=>by
  have hu:=hr.units
  unfold zEO
  exact (zAD (vs_if (vt_lt hu (v_var 1) (v_len T.b_len (zAA (v_var 0) zAE)))
   (zAK (zAZ (v_ix hu (v_var 0) (v_var 1))))
   zA8)
   (zAK (zAZ v_int)))
noncomputable def zEP:GS :=
 (gSeq (gIfS (gB (g2 geD (gVar 0) (g2 powD (gC (.int 10)) (gC (.int 18)))))
 (gRetF (gLst [(g2 subD (gVar 0) (g2 powD (gC (.int 10)) (gC (.int 18)))),(g2 modD (gVar 0) (gC (.int 2305843009213693951))),(gVar 1)]))
 gNx)
 (gRetF (gLst [(gC (.int 0)),(g2 modD (gVar 0) (gC (.int 2305843009213693951))),(gVar 1)])))
noncomputable def zBK:Mr:=mkFn 2 zEP
theorem zIP:FnScope ["cell","turn"] ["cell","turn"] (zAH zBH):=⟨rfl,rfl,rfl,by decide +kernel,rfl,by decide +kernel,by decide +kernel⟩
theorem zHN {P:Program} {w:World} {K:PySem.W.Frag} {mg:Str→Option Value} {base:Heap} {f:Addr} {fd:FuncData} (Fn:Fun K "_law_well" "_law_well" zBH f fd) (T:Bt mg) :FnOk P w K mg base CX0 1 f fd ["cell","turn"] (spV K 2 zBK) :=
 fn_v Fn zIP fun cdv A outer s H E hr=>by
  have hu:=hr.units
  unfold zEP
  exact (zAD (vs_if (vt_ge (v_var 0) (v_pow v_int v_int))
   (zAK (zLV (f_lst (zAA (v_sub (v_var 0) (v_pow v_int v_int)) (zAA (v_mod (v_var 0) v_int) (zAA (v_var 1) zAE))))))
   zA8)
   (zAK (zLV (f_lst (zAA v_int (zAA (v_mod (v_var 0) v_int) (zAA (v_var 1) zAE)))))))
noncomputable def zEQ:GS :=
 (gSeq (gIfS (gBorT [0] (gB (g2 gtD (g2 ixD (gVar 0) (gC (.int 0))) (gC (.int 0)))))
 (gSeq (gAsg (.nm 2) (gBor [0] (g2 modD (g2 ixD (gVar 0) (gC (.int 0))) (gVar 1))))
 (gSeq (zAO 0 (gC (.int 0)) (gBor [0] (g2 fdivD (g2 ixD (gVar 0) (gC (.int 0))) (gVar 1))))
 (gRet (gVar 2))))
 gNx)
 (gSeq (zAO 0 (gC (.int 2)) (gBor [0] (g2 addD (g2 ixD (gVar 0) (gC (.int 2))) (gC (.int 1)))))
 (gSeq (gAsg (.nm 3) (gC (.int 2305843009213693951)))
 (gSeq (gAsg (.nm 4) (gBor [0] (g2 modD (g2 addD (g2 ixD (gVar 0) (gC (.int 1))) (g2 mulD (gC (.int 1000003)) (g2 ixD (gVar 0) (gC (.int 2))))) (gVar 3))))
 (gSeq (gAsg (.nm 4) (gBor [0] (g2 modD (g2 addD (g2 addD (g2 mulD (gVar 4) (gVar 4)) (g2 mulD (gC (.int 7919)) (g2 powD (g2 ixD (gVar 0) (gC (.int 2))) (gC (.int 2))))) (gC (.int 5))) (gVar 3))))
 (gRet (g2 modD (g2 fdivD (g2 modD (g2 powD (gVar 4) (gC (.int 3))) (gVar 3)) (gC (.int 13))) (gVar 1))))))))
noncomputable def zAB:Mr:=mkFn 5 zEQ
theorem sc_law_take:FnScope ["bag","many","found","p","n"] ["bag","many"] (zAH zBI):=⟨rfl,rfl,rfl,by decide +kernel,rfl,by decide +kernel,by decide +kernel⟩
theorem zHO {P:Program} {w:World} {K:PySem.W.Frag} {mg:Str→Option Value} {base:Heap} {f:Addr} {fd:FuncData} (Fn:Fun K "_law_take" "_law_take" zBI f fd) (T:Bt mg) :FnOk P w K mg base CX0 1 f fd ["bag","many"] (spV K 2 zAB) :=
 fn_v Fn sc_law_take fun cdv A outer s H E hr=>by
  have hu:=hr.units
  unfold zEQ
  exact (zAD (vs_if (zEF [0] (vt_gt (v_ix hu (v_var 0) v_int) v_int))
   (zAD (zBF (i:=2) sc_law_take.nd rfl (Or.inl rfl) (v_bor [0] (v_mod (v_ix hu (v_var 0) v_int) (v_var 1))))
   (zAD (zA4 0 hu v_int (v_bor [0] (zO4 (v_ix hu (v_var 0) v_int) (v_var 1))))
   (zAK (zAZ (v_var 2)))))
   zA8)
   (zAD (zA4 0 hu v_int (v_bor [0] (v_add (v_ix hu (v_var 0) v_int) v_int)))
   (zAD (zBF (i:=3) sc_law_take.nd rfl (Or.inl rfl) v_int)
   (zAD (zBF (i:=4) sc_law_take.nd rfl (Or.inl rfl) (v_bor [0] (v_mod (v_add (v_ix hu (v_var 0) v_int) (v_mul v_int (v_ix hu (v_var 0) v_int))) (v_var 3))))
   (zAD (zBF (i:=4) sc_law_take.nd rfl (Or.inl rfl) (v_bor [0] (v_mod (v_add (v_add (v_mul (v_var 4) (v_var 4)) (v_mul v_int (v_pow (v_ix hu (v_var 0) v_int) v_int))) v_int) (v_var 3))))
   (zAK (zAZ (v_mod (zO4 (v_mod (v_pow (v_var 4) v_int) (v_var 3)) v_int) (v_var 1)))))))))
noncomputable def zDV:GS :=
 (gSeq (gSetF 3 (gC (.dk [])))
 (gSeq (gFor (gAnyI (g2 ixD (gVar 0) (gC (.int 1)))) (.tp [(.nm 4),(.nm 5)])
 (zAO 3 (gVar 4) (gBor [3] (g2 addD (gGet (gVar 3) (gVar 4) (gLst [])) (gLst [(gVar 5)])))))
 (gSeq (gSetF 6 (gIf (gB (g2 neD (gVar 1) (gVar 2))) (zMC (gVar 1) (gC (.bl true))) (gC (.dk []))))
 (gSeq (gSetF 7 (gBorF [6] (gN listD [(gVar 6)])))
 (gSeq (gWh (gBorT [7] (gB (g2 neD (gVar 7) (gLst []))))
 (gFor (gAnyI (gGet (gVar 3) (gMeth 7 popD []) (gLst []))) (.nm 5)
 (gIfS (gBorT [6] (gAndT (gB (g2 neD (gVar 5) (gVar 2))) (gB (g2 zEJ (gVar 5) (gVar 6)))))
 (gSeq (zAO 6 (gVar 5) (gC (.bl true)))
 (gDrop (gMeth 7 appD [(gVar 5)])))
 gNx)) 100000)
 (gRet (gBor [6] (gN listD [(gVar 6)]))))))))
noncomputable def zBE:Mr:=mkFn 8 zDV
theorem sc_law_reach:FnScope ["net","gate","closed","ahead","one","other","found","row"] ["net","gate","closed"] (zAH zBB):=⟨rfl,rfl,rfl,by decide +kernel,rfl,by decide +kernel,by decide +kernel⟩
theorem zGG {P:Program} {w:World} {K:PySem.W.Frag} {mg:Str→Option Value} {base:Heap} {f:Addr} {fd:FuncData} (Fn:Fun K "_law_reach" "_law_reach" zBB f fd) (T:Bt mg) :FnOk P w K mg base CX0 1 f fd ["net","gate","closed"] (spV K 3 zBE) :=
 fn_v Fn sc_law_reach fun cdv A outer s H E hr=>by
  have hu:=hr.units
  unfold zDV
  exact (zAD (zCG (i:=3) sc_law_reach.nd rfl (Or.inl rfl) zIK)
   (zAD (zDC PassesOwn.never rfl (zDE (v_ix hu (v_var 0) v_int)) (zDB rfl (zAR (zAN (i:=4) sc_law_reach.nd rfl (Or.inl rfl)) (zAR (zAN (i:=5) sc_law_reach.nd rfl (Or.inl rfl)) zCF)))
   (zAK (zA4 3 hu (v_var 4) (v_bor [3] (v_add (v_get hu (v_var 3) (v_var 4) (FE.ve (f_lst zAE))) (FE.ve (f_lst (zAA (v_var 5) zAE))))))))
   (zAD (zCG (i:=6) sc_law_reach.nd rfl (Or.inl rfl) (f_if (vt_ne hu (v_var 1) (v_var 2)) (zQZ (v_var 1) v_bl) zIK))
   (zAD (zCG (i:=7) sc_law_reach.nd rfl (Or.inl rfl) (f_bor [6] (zMA rfl T.b_list (zAA (v_var 6) zAE))))
   (zAD (zF7 100000 PassesOwn.never (zEF [7] (vt_ne hu (v_var 7) (FE.ve (f_lst zAE))))
   (zAK (zDC PassesOwn.never rfl (zDE (v_get hu (v_var 3) (v_pop 7) (FE.ve (f_lst zAE)))) (zAN (i:=5) sc_law_reach.nd rfl (Or.inl rfl))
   (zAK (vs_if (zEF [6] (VW.t (zLU (vt_ne hu (v_var 5) (v_var 2)) (zIG (zNU hu (v_var 5) (v_var 6))))))
   (zAD (zA4 6 hu (v_var 5) v_bl)
   (zAK (zIH (zGF 7 (zAA (v_var 5) zAE)))))
   zA8)))))
   (zAK (zAZ (v_bor [6] (FE.ve (zMA rfl T.b_list (zAA (v_var 6) zAE)))))))))))
noncomputable def zFL:GS :=
 (gRet (gAnd (gCall zBD [(gVar 1)]) (zDT leD ltD (gC (.int 0)) (gVar 1) (gVar 0))))
noncomputable def zCC:Mr:=mkFn 2 zFL
theorem zKH:FnScope ["many","thing"] ["many","thing"] (zAH zBY):=⟨rfl,rfl,rfl,by decide +kernel,rfl,by decide +kernel,by decide +kernel⟩
theorem zIQ {P:Program} {w:World} {K:PySem.W.Frag} {mg:Str→Option Value} {base:Heap} {f:Addr} {fd:FuncData} (Fn:Fun K "is_place" "is_place" zBY f fd) (T:Bt mg) (c_is_whole:Cal P w K mg base "is_whole" 1 1 zBD):FnOk P w K mg base CX0 2 f fd ["many","thing"] (spV K 2 zCC) :=
 fn_v Fn zKH fun cdv A outer s H E hr=>by
  have hu:=hr.units
  unfold zFL
  exact (zAK (zAZ (v_and (zB2 c_is_whole (hr.mono (by decide)) (zAA (v_var 1) zAE)) (v_one (zQK op_le (zEK _) (zS6 hu) zL4 v_int (v_var 1) (v_var 0))))))
noncomputable def zDW:GS :=
 (gSeq (gAsg (.nm 3) (g2 ixD (gVar 0) (gC (.int 0))))
 (gSeq (gSetF 4 (g2 repD (gLst [(gC .non)]) (gVar 3)))
 (gSeq (gIfS (gB (g2 inD (gVar 1) (gVar 2)))
 (gRet (gVar 4))
 gNx)
 (gSeq (gAsg (.nm 5) (gCall zAS [(gVar 0)]))
 (gSeq (gAsg (.nm 6) (gComp (gRng1 (gVar 3)) 1 [2] (.nm 0) gYes (g2 inD (gVar 0) (gVar 1))))
 (gSeq (zAO 4 (gVar 1) (gC (.int 0)))
 (gSeq (gAsg (.nm 7) (gLst [(gVar 1)]))
 (gSeq (gWh (gTru (gVar 7))
 (gSeq (gSetF 8 (gLst []))
 (gSeq (gFor (gAnyI (gVar 7)) (.nm 9)
 (gFor (gAnyI (g2 ixD (gVar 5) (gVar 9))) (.nm 10)
 (gIfS (gBorT [4] (gAndT (gB (g2 isND (g2 ixD (gVar 4) (gVar 10)) (gC .non))) (gNotT (gTru (g2 ixD (gVar 6) (gVar 10))))))
 (gSeq (zAO 4 (gVar 10) (gBor [4] (g2 addD (g2 ixD (gVar 4) (gVar 9)) (gC (.int 1)))))
 (gDrop (gMeth 8 appD [(gVar 10)])))
 gNx)))
 (gAsg (.nm 7) (gVar 8)))) 100000)
 (gRet (gVar 4))))))))))
noncomputable def zB4:Mr:=mkFn 11 zDW
theorem sclanes_away:FnScope ["net","start","closed","many","away","nexts","shut","layer","further","place","head"] ["net","start","closed"] (zAH zBC):=⟨rfl,rfl,rfl,by decide +kernel,rfl,by decide +kernel,by decide +kernel⟩
theorem zGH {P:Program} {w:World} {K:PySem.W.Frag} {mg:Str→Option Value} {base:Heap} {f:Addr} {fd:FuncData} (Fn:Fun K "lanes_away" "lanes_away" zBC f fd) (T:Bt mg) (c_next_places:Cal P w K mg base "next_places" 1 1 zAS):FnOk P w K mg base CX0 2 f fd ["net","start","closed"] (spV K 3 zB4) :=
 fn_v Fn sclanes_away fun cdv A outer s H E hr=>by
  have hu:=hr.units
  unfold zDW
  exact (zAD (zBF (i:=3) sclanes_away.nd rfl (Or.inl rfl) (v_ix hu (v_var 0) v_int))
   (zAD (zCG (i:=4) sclanes_away.nd rfl (Or.inl rfl) (f_rep (zAA v_non zAE) (v_var 3)))
   (zAD (vs_if (vt_in hu (v_var 1) (v_var 2))
   (zAK (zAZ (v_var 4)))
   zA8)
   (zAD (zBF (i:=5) sclanes_away.nd rfl (Or.inl rfl) (zB2 c_next_places (hr.mono (by decide)) (zAA (v_var 0) zAE)))
   (zAD (zIM (i:=6) (own:=["place"]) (caps:=["closed"]) (js:=[2]) ⟨rfl,rfl,by decide +kernel,by decide +kernel,by decide +kernel,rfl,(al1 rfl),rfl,(al1 (by first | exact Or.inl rfl | exact Or.inr rfl)),(al1 (by first | exact Or.inl rfl | exact Or.inr rfl)),by decide +kernel,by decide +kernel⟩ rfl (zCO T.b_range (v_var 3)) (fun C s H fp=>(zAN (i:=0) (by decide +kernel:((["place"]:List Str)++(["closed"]:List Str)).Nodup) rfl (Or.inl rfl) (Or.inr rfl))) (fun C s H fp=>zDJ) (fun C s H fp=>(v_in hu (v_var 0) (v_var 1))) sclanes_away.nd rfl rfl rfl)
   (zAD (zA4 4 hu (v_var 1) v_int)
   (zAD (zBF (i:=7) sclanes_away.nd rfl (Or.inl rfl) (FE.ve (f_lst (zAA (v_var 1) zAE))))
   (zAD (zF7 100000 PassesOwn.never (zBT (v_var 7))
   (zAD (zCG (i:=8) sclanes_away.nd rfl (Or.inl rfl) (f_lst zAE))
   (zAD (zDC PassesOwn.never rfl (zDE (v_var 7)) (zAN (i:=9) sclanes_away.nd rfl (Or.inl rfl))
   (zAK (zDC PassesOwn.never rfl (zDE (v_ix hu (v_var 5) (v_var 9))) (zAN (i:=10) sclanes_away.nd rfl (Or.inl rfl))
   (zAK (vs_if (zEF [4] (VW.t (zLU (zSV (v_ix hu (v_var 4) (v_var 10)) v_non) (zIG (zDA (zBT (v_ix hu (v_var 6) (v_var 10))))))))
   (zAD (zA4 4 hu (v_var 10) (v_bor [4] (v_add (v_ix hu (v_var 4) (v_var 9)) v_int)))
   (zAK (zIH (zGF 8 (zAA (v_var 10) zAE)))))
   zA8)))))
   (zAK (zBF (i:=7) sclanes_away.nd rfl (Or.inl rfl) (v_var 8))))))
   (zAK (zAZ (v_var 4)))))))))))
noncomputable def zCP:GS :=
 (gSeq (gSetF 2 (gN listD [(gVar 1)]))
 (gSeq (gSetF 3 (gLst []))
 (gSeq (gWh (gBorT [2] (gB (g2 neD (gVar 2) (gLst []))))
 (gDrop (gMeth 3 appD [(gMeth 2 zDU [(zAM zAB 0 [(gBor [2] (gN lenD [(gVar 2)]))])])])) 100000)
 (gRet (gVar 3)))))
noncomputable def zA3:Mr:=mkFn 4 zCP
theorem sc_law_shuffled:FnScope ["bag","some","left","found"] ["bag","some"] (zAH zAX):=⟨rfl,rfl,rfl,by decide +kernel,rfl,by decide +kernel,by decide +kernel⟩
theorem zDZ {P:Program} {w:World} {K:PySem.W.Frag} {mg:Str→Option Value} {base:Heap} {f:Addr} {fd:FuncData} (Fn:Fun K "_law_shuffled" "_law_shuffled" zAX f fd) (T:Bt mg) (c__law_take:Cal P w K mg base "_law_take" 1 2 zAB):FnOk P w K mg base CX0 2 f fd ["bag","some"] (spV K 2 zA3) :=
 fn_v Fn sc_law_shuffled fun cdv A outer s H E hr=>by
  have hu:=hr.units
  unfold zCP
  exact (zAD (zCG (i:=2) sc_law_shuffled.nd rfl (Or.inl rfl) (zMA rfl T.b_list (zAA (v_var 1) zAE)))
   (zAD (zCG (i:=3) sc_law_shuffled.nd rfl (Or.inl rfl) (f_lst zAE))
   (zAD (zF7 100000 PassesOwn.never (zEF [2] (vt_ne hu (v_var 2) (FE.ve (f_lst zAE))))
   (zAK (zIH (zGF 3 (zAA (zQW 2 (zAA (zA2 0 c__law_take (hr.mono (by decide)) (zAA (v_bor [2] (v_len T.b_len (zAA (v_var 2) zAE))) zAE)) zAE)) zAE)))))
   (zAK (zAZ (v_var 3))))))
noncomputable def zHP:GS :=
 (gSeq (gIfS (gOrT (gNotT (gTru (gInst "tuple" (gVar 1)))) (gB (g2 neD (gN lenD [(gVar 1)]) (gC (.int 2)))))
 (gRet (gC (.bl false)))
 gNx)
 (gSeq (gAsg (.tp [(.nm 2),(.nm 3)]) (gVar 1))
 (gRet (gAnd (gCall zCC [(gVar 0),(gVar 2)]) (gAnd (gCall zCC [(gVar 0),(gVar 3)]) (g2 neD (gVar 2) (gVar 3)))))))
noncomputable def zCQ:Mr:=mkFn 4 zHP
theorem scis_lane:FnScope ["many","thing","one","other"] ["many","thing"] (zAH zCA):=⟨rfl,rfl,rfl,by decide +kernel,rfl,by decide +kernel,by decide +kernel⟩
theorem zKI {P:Program} {w:World} {K:PySem.W.Frag} {mg:Str→Option Value} {base:Heap} {f:Addr} {fd:FuncData} (Fn:Fun K "is_lane" "is_lane" zCA f fd) (T:Bt mg) (c_is_place:Cal P w K mg base "is_place" 2 2 zCC):FnOk P w K mg base CX0 3 f fd ["many","thing"] (spV K 2 zCQ) :=
 fn_v Fn scis_lane fun cdv A outer s H E hr=>by
  have hu:=hr.units
  unfold zHP
  exact (zAD (vs_if (VW.t (vw_or (zDA (zBT (zFI zDD T.b_isinstance T.b_tuple (by decide +kernel) (v_var 1)))) (zFD (vt_ne hu (v_len T.b_len (zAA (v_var 1) zAE)) v_int))))
   (zAK (zAZ v_bl))
   zA8)
   (zAD (zLW (v_var 1) (zDB rfl (zAR (zAN (i:=2) scis_lane.nd rfl (Or.inl rfl)) (zAR (zAN (i:=3) scis_lane.nd rfl (Or.inl rfl)) zCF))))
   (zAK (zAZ (v_and (zB2 c_is_place (hr.mono (by decide)) (zAA (v_var 0) (zAA (v_var 2) zAE))) (v_and (zB2 c_is_place (hr.mono (by decide)) (zAA (v_var 0) (zAA (v_var 3) zAE))) (v_one (v_ne hu (v_var 2) (v_var 3)))))))))
noncomputable def zCY:GS :=
 (gSeq (gAsg (.nm 3) (gCall zB4 [(gVar 0),(gVar 1),(gVar 2)]))
 (gRet (gN tupD [(gComp (zME (gVar 3)) 2 [] (.tp [(.nm 0),(.nm 1)]) (gB (g2 notND (gVar 1) (gC .non))) (gVar 0))])))
noncomputable def zBM:Mr:=mkFn 4 zCY
theorem screached_past:FnScope ["net","gate","closed","away"] ["net","gate","closed"] (zAH zA0):=⟨rfl,rfl,rfl,by decide +kernel,rfl,by decide +kernel,by decide +kernel⟩
theorem zER {P:Program} {w:World} {K:PySem.W.Frag} {mg:Str→Option Value} {base:Heap} {f:Addr} {fd:FuncData} (Fn:Fun K "reached_past" "reached_past" zA0 f fd) (T:Bt mg) (c_lanes_away:Cal P w K mg base "lanes_away" 2 3 zB4):FnOk P w K mg base CX0 3 f fd ["net","gate","closed"] (spV K 3 zBM) :=
 fn_v Fn screached_past fun cdv A outer s H E hr=>by
  have hu:=hr.units
  unfold zCY
  exact (zAD (zBF (i:=3) screached_past.nd rfl (Or.inl rfl) (zB2 c_lanes_away (hr.mono (by decide)) (zAA (v_var 0) (zAA (v_var 1) (zAA (v_var 2) zAE)))))
   (zAK (zAZ (zDM T.b_tuple (zAA (FE.ve (zEI (own:=["place","steps"]) (caps:=[]) (js:=[]) ⟨rfl,rfl,by decide +kernel,by decide +kernel,by decide +kernel,rfl,mem0,rfl,mem0,mem0,by decide +kernel,by decide +kernel⟩ rfl (zN6 T.b_enumerate (v_var 3)) (fun C s H fp=>(zDB rfl (zAR (zAN (i:=0) (by decide +kernel:((["place","steps"]:List Str)++([]:List Str)).Nodup) rfl (Or.inl rfl) (Or.inr rfl)) (zAR (zAN (i:=1) (by decide +kernel:((["place","steps"]:List Str)++([]:List Str)).Nodup) rfl (Or.inl rfl) (Or.inr rfl)) zCF)))) (fun C s H fp=>(zLY (zQI (v_var 1) v_non))) (fun C s H fp=>(v_var 0)))) zAE)))))
noncomputable def zFM:GS :=
 (gSeq (gAsg (.nm 2) (g2 ixD (gLst [(gVar 1),(g2 addD (gC (.int 1)) (zAM zAB 0 [(gVar 1)])),(g2 addD (gC (.int 1)) (zAM zAB 0 [(gN min2D [(gC (.int 7)),(gVar 1)])]))]) (zAM zAB 0 [(gC (.int 3))])))
 (gSeq (gAsg (.nm 3) (zAM zAB 0 [(gC (.int 4))]))
 (gSeq (gAsg (.nm 4) (g2 ixD (gLst [(gC (.int 0)),(gC (.int 1)),(zAM zAB 0 [(g2 addD (gVar 2) (gC (.int 1)))]),(g2 addD (gVar 2) (zAM zAB 0 [(g2 mulD (gC (.int 5)) (gVar 2))])),(gC (.int 120))]) (zAM zAB 0 [(gC (.int 5))])))
 (gSeq (gSetF 5 (gC (.dt [])))
 (gSeq (gFor (gRng2 (gC (.int 1)) (gVar 2)) (.nm 6)
 (gIfS (gB (g2 ltD (gVar 3) (gC (.int 3))))
 (zAO 5 (gTup' [(g2 ixD (gLst [(zAM zAB 0 [(gVar 6)]),(g2 subD (g2 subD (gVar 6) (gC (.int 1))) (zAM zAB 0 [(gN min2D [(gVar 6),(gC (.int 2))])])),(gC (.int 0))]) (gVar 3)),(gVar 6)]) (gC (.bl true)))
 gNx))
 (gSeq (gFor (gRng1 (gVar 4)) (.nm 7)
 (gSeq (gAsg (.nm 8) (zAM zAB 0 [(gVar 2)]))
 (gSeq (gAsg (.nm 9) (g2 ixD (gLst [(zAM zAB 0 [(gVar 2)]),(g2 modD (g2 addD (g2 addD (gVar 8) (gC (.int 1))) (zAM zAB 0 [(gC (.int 2))])) (gVar 2))]) (zAM zAB 0 [(gC (.int 2))])))
 (gIfS (gBorT [5] (gAndT (gB (g2 neD (gVar 8) (gVar 9))) (gB (g2 ltD (gN lenD [(gVar 5)]) (gC (.int 120))))))
 (zAO 5 (gTup' [(gVar 8),(gVar 9)]) (gC (.bl true)))
 gNx))))
 (gSeq (gAsg (.nm 10) (zAM zA3 0 [(gLR (gVar 2))]))
 (gSeq (gAsg (.nm 11) (g2 ixD (gLst [(g2 ixD (gVar 10) (gC (.int 0))),(g2 ixD (gVar 10) (gC (.int 0))),(zAM zAB 0 [(gVar 2)])]) (zAM zAB 0 [(gC (.int 3))])))
 (gRet (gBor [5] (gTup' [(gTup' [(gVar 2),(gN tupD [(gN sortD [(gComp (gAnyI (gVar 5)) 2 [10] (.tp [(.nm 0),(.nm 1)]) gYes (gTup' [(g2 ixD (gVar 2) (gVar 0)),(g2 ixD (gVar 2) (gVar 1))]))])])]),(gVar 11)])))))))))))
noncomputable def zB0:Mr:=mkFn 12 zFM
theorem sc_law_net:FnScope ["bag","most","many","way","more","lanes","k","turn","one","other","names","gate"] ["bag","most"] (zAH zBZ):=⟨rfl,rfl,rfl,by decide +kernel,rfl,by decide +kernel,by decide +kernel⟩
theorem zIR {P:Program} {w:World} {K:PySem.W.Frag} {mg:Str→Option Value} {base:Heap} {f:Addr} {fd:FuncData} (Fn:Fun K "_law_net" "_law_net" zBZ f fd) (T:Bt mg) (c__law_take:Cal P w K mg base "_law_take" 1 2 zAB) (c__law_shuffled:Cal P w K mg base "_law_shuffled" 2 2 zA3):FnOk P w K mg base CX0 3 f fd ["bag","most"] (spV K 2 zB0) :=
 fn_v Fn sc_law_net fun cdv A outer s H E hr=>by
  have hu:=hr.units
  unfold zFM
  exact (zAD (zBF (i:=2) sc_law_net.nd rfl (Or.inl rfl) (v_ix hu (FE.ve (f_lst (zAA (v_var 1) (zAA (v_add v_int (zA2 0 c__law_take (hr.mono (by decide)) (zAA (v_var 1) zAE))) (zAA (v_add v_int (zA2 0 c__law_take (hr.mono (by decide)) (zAA (zO6 rfl T.b_min (zAA v_int (zAA (v_var 1) zAE))) zAE))) zAE))))) (zA2 0 c__law_take (hr.mono (by decide)) (zAA v_int zAE))))
   (zAD (zBF (i:=3) sc_law_net.nd rfl (Or.inl rfl) (zA2 0 c__law_take (hr.mono (by decide)) (zAA v_int zAE)))
   (zAD (zBF (i:=4) sc_law_net.nd rfl (Or.inl rfl) (v_ix hu (FE.ve (f_lst (zAA v_int (zAA v_int (zAA (zA2 0 c__law_take (hr.mono (by decide)) (zAA (v_add (v_var 2) v_int) zAE)) (zAA (v_add (v_var 2) (zA2 0 c__law_take (hr.mono (by decide)) (zAA (v_mul v_int (v_var 2)) zAE))) (zAA v_int zAE))))))) (zA2 0 c__law_take (hr.mono (by decide)) (zAA v_int zAE))))
   (zAD (zCG (i:=5) sc_law_net.nd rfl (Or.inl rfl) zQY)
   (zAD (zDC PassesOwn.never rfl (zMD T.b_range v_int (v_var 2)) (zAN (i:=6) sc_law_net.nd rfl (Or.inl rfl))
   (zAK (vs_if (vt_lt hu (v_var 3) v_int)
   (zAK (zA4 5 hu (v_tup (zAA (v_ix hu (FE.ve (f_lst (zAA (zA2 0 c__law_take (hr.mono (by decide)) (zAA (v_var 6) zAE)) (zAA (v_sub (v_sub (v_var 6) v_int) (zA2 0 c__law_take (hr.mono (by decide)) (zAA (zO6 rfl T.b_min (zAA (v_var 6) (zAA v_int zAE))) zAE))) (zAA v_int zAE))))) (v_var 3)) (zAA (v_var 6) zAE))) v_bl))
   zA8)))
   (zAD (zDC PassesOwn.never rfl (zCO T.b_range (v_var 4)) (zAN (i:=7) sc_law_net.nd rfl (Or.inl rfl))
   (zAD (zBF (i:=8) sc_law_net.nd rfl (Or.inl rfl) (zA2 0 c__law_take (hr.mono (by decide)) (zAA (v_var 2) zAE)))
   (zAD (zBF (i:=9) sc_law_net.nd rfl (Or.inl rfl) (v_ix hu (FE.ve (f_lst (zAA (zA2 0 c__law_take (hr.mono (by decide)) (zAA (v_var 2) zAE)) (zAA (v_mod (v_add (v_add (v_var 8) v_int) (zA2 0 c__law_take (hr.mono (by decide)) (zAA v_int zAE))) (v_var 2)) zAE)))) (zA2 0 c__law_take (hr.mono (by decide)) (zAA v_int zAE))))
   (zAK (vs_if (zEF [5] (VW.t (zLU (vt_ne hu (v_var 8) (v_var 9)) (zIG (vt_lt hu (v_len T.b_len (zAA (v_var 5) zAE)) v_int)))))
   (zAK (zA4 5 hu (v_tup (zAA (v_var 8) (zAA (v_var 9) zAE))) v_bl))
   zA8)))))
   (zAD (zBF (i:=10) sc_law_net.nd rfl (Or.inr rfl) (zA2 0 c__law_shuffled (hr.mono (by decide)) (zAA (FE.ve (zIL rfl T.b_range T.b_list (v_var 2))) zAE)))
   (zAD (zBF (i:=11) sc_law_net.nd rfl (Or.inl rfl) (v_ix hu (FE.ve (f_lst (zAA (v_ix hu (v_var 10) v_int) (zAA (v_ix hu (v_var 10) v_int) (zAA (zA2 0 c__law_take (hr.mono (by decide)) (zAA (v_var 2) zAE)) zAE))))) (zA2 0 c__law_take (hr.mono (by decide)) (zAA v_int zAE))))
   (zAK (zAZ (v_bor [5] (v_tup (zAA (v_tup (zAA (v_var 2) (zAA (zDM T.b_tuple (zAA (FE.ve (zD2 T.b_sorted (zAA (FE.ve (zEI (own:=["one","other"]) (caps:=["names"]) (js:=[10]) ⟨rfl,rfl,by decide +kernel,by decide +kernel,by decide +kernel,rfl,(al1 rfl),rfl,(al1 (by first | exact Or.inl rfl | exact Or.inr rfl)),(al1 (by first | exact Or.inl rfl | exact Or.inr rfl)),by decide +kernel,by decide +kernel⟩ rfl (zDE (v_var 5)) (fun C s H fp=>(zDB rfl (zAR (zAN (i:=0) (by decide +kernel:((["one","other"]:List Str)++(["names"]:List Str)).Nodup) rfl (Or.inl rfl) (Or.inr rfl)) (zAR (zAN (i:=1) (by decide +kernel:((["one","other"]:List Str)++(["names"]:List Str)).Nodup) rfl (Or.inl rfl) (Or.inr rfl)) zCF)))) (fun C s H fp=>zDJ) (fun C s H fp=>(v_tup (zAA (v_ix hu (v_var 2) (v_var 0)) (zAA (v_ix hu (v_var 2) (v_var 1)) zAE)))))) zAE))) zAE)) zAE))) (zAA (v_var 11) zAE))))))))))))))
noncomputable def zJJ:GS :=
 (gSeq (gIfS (gOrT (gNotT (gTru (gInst "tuple" (gVar 0)))) (gB (g2 neD (gN lenD [(gVar 0)]) (gC (.int 2)))))
 (gRet (gC (.bl false)))
 gNx)
 (gSeq (gAsg (.tp [(.nm 1),(.nm 2)]) (gVar 0))
 (gSeq (gIfS (gOrT (gNotT (gTru (gCall zBD [(gVar 1)]))) (gNotT (gB (zDT leD leD (gC (.int 1)) (gVar 1) (gC (.int 24))))))
 (gRet (gC (.bl false)))
 gNx)
 (gSeq (gIfS (gOrT (gNotT (gTru (gInst "tuple" (gVar 2)))) (gB (g2 gtD (gN lenD [(gVar 2)]) (gC (.int 120)))))
 (gRet (gC (.bl false)))
 gNx)
 (gSeq (gIfS (gNotT (gTru (gN allD [(gComp (gAnyI (gVar 2)) 1 [1] (.nm 0) gYes (gCall zCQ [(gVar 1),(gVar 0)]))])))
 (gRet (gC (.bl false)))
 gNx)
 (gRet (gN allD [(gComp (gZip (gVar 2) (zHI (gVar 2) (some (gC (.int 1))) none)) 2 [] (.tp [(.nm 0),(.nm 1)]) gYes (g2 ltD (gVar 0) (gVar 1)))])))))))
noncomputable def zCW:Mr:=mkFn 3 zJJ
theorem scis_net:FnScope ["thing","many","lanes"] ["thing"] (zAH zCV):=⟨rfl,rfl,rfl,by decide +kernel,rfl,by decide +kernel,by decide +kernel⟩
theorem zMG {P:Program} {w:World} {K:PySem.W.Frag} {mg:Str→Option Value} {base:Heap} {f:Addr} {fd:FuncData} (Fn:Fun K "is_net" "is_net" zCV f fd) (T:Bt mg) (c_is_whole:Cal P w K mg base "is_whole" 1 1 zBD) (c_is_lane:Cal P w K mg base "is_lane" 3 2 zCQ):FnOk P w K mg base CX0 4 f fd ["thing"] (spV K 1 zCW) :=
 fn_v Fn scis_net fun cdv A outer s H E hr=>by
  have hu:=hr.units
  unfold zJJ
  exact (zAD (vs_if (VW.t (vw_or (zDA (zBT (zFI zDD T.b_isinstance T.b_tuple (by decide +kernel) (v_var 0)))) (zFD (vt_ne hu (v_len T.b_len (zAA (v_var 0) zAE)) v_int))))
   (zAK (zAZ v_bl))
   zA8)
   (zAD (zLW (v_var 0) (zDB rfl (zAR (zAN (i:=1) scis_net.nd rfl (Or.inr rfl)) (zAR (zAN (i:=2) scis_net.nd rfl (Or.inl rfl)) zCF))))
   (zAD (vs_if (VW.t (vw_or (zDA (zBT (zB2 c_is_whole (hr.mono (by decide)) (zAA (v_var 1) zAE)))) (zFD (zDA (zNY op_le (zEK _) op_le (zEK _) v_int (v_var 1) (zO0 (v:=.int 24) T.k_MOST_PLACES.choose_spec ⟨_,rfl⟩ (fun _=>.int 24)))))))
   (zAK (zAZ v_bl))
   zA8)
   (zAD (vs_if (VW.t (vw_or (zDA (zBT (zFI zDD T.b_isinstance T.b_tuple (by decide +kernel) (v_var 2)))) (zFD (vt_gt (v_len T.b_len (zAA (v_var 2) zAE)) (zO0 (v:=.int 120) T.k_MOST_LANES.choose_spec ⟨_,rfl⟩ (fun _=>.int 120))))))
   (zAK (zAZ v_bl))
   zA8)
   (zAD (vs_if (zDA (zBT (v_all rfl T.b_all (zAA (FE.ve (zEI (own:=["lane"]) (caps:=["many"]) (js:=[1]) ⟨rfl,rfl,by decide +kernel,by decide +kernel,by decide +kernel,rfl,(al1 rfl),rfl,(al1 (by first | exact Or.inl rfl | exact Or.inr rfl)),(al1 (by first | exact Or.inl rfl | exact Or.inr rfl)),by decide +kernel,by decide +kernel⟩ rfl (zDE (v_var 2)) (fun C s H fp=>(zAN (i:=0) (by decide +kernel:((["lane"]:List Str)++(["many"]:List Str)).Nodup) rfl (Or.inl rfl) (Or.inr rfl))) (fun C s H fp=>zDJ) (fun C s H fp=>(zB2 c_is_lane (hr.mono (by decide)) (zAA (v_var 1) (zAA (v_var 0) zAE)))))) zAE))))
   (zAK (zAZ v_bl))
   zA8)
   (zAK (zAZ (v_all rfl T.b_all (zAA (FE.ve (zEI (own:=["lane","later"]) (caps:=[]) (js:=[]) ⟨rfl,rfl,by decide +kernel,by decide +kernel,by decide +kernel,rfl,mem0,rfl,mem0,mem0,by decide +kernel,by decide +kernel⟩ rfl (zS5 T.b_zip (v_var 2) (zL6 (v_var 2) (zIJ v_int) zQS)) (fun C s H fp=>(zDB rfl (zAR (zAN (i:=0) (by decide +kernel:((["lane","later"]:List Str)++([]:List Str)).Nodup) rfl (Or.inl rfl) (Or.inr rfl)) (zAR (zAN (i:=1) (by decide +kernel:((["lane","later"]:List Str)++([]:List Str)).Nodup) rfl (Or.inl rfl) (Or.inr rfl)) zCF)))) (fun C s H fp=>zDJ) (fun C s H fp=>(v_lt hu (v_var 0) (v_var 1))))) zAE)))))))))
noncomputable def zHQ:GS :=
 (gRet (gCall zBM [(gVar 0),(gVar 1),(gTup' [])]))
noncomputable def zBP:Mr:=mkFn 2 zHQ
theorem zMH:FnScope ["net","gate"] ["net","gate"] (zAH zCB):=⟨rfl,rfl,rfl,by decide +kernel,rfl,by decide +kernel,by decide +kernel⟩
theorem zKJ {P:Program} {w:World} {K:PySem.W.Frag} {mg:Str→Option Value} {base:Heap} {f:Addr} {fd:FuncData} (Fn:Fun K "reached" "reached" zCB f fd) (T:Bt mg) (c_reached_past:Cal P w K mg base "reached_past" 3 3 zBM):FnOk P w K mg base CX0 4 f fd ["net","gate"] (spV K 2 zBP) :=
 fn_v Fn zMH fun cdv A outer s H E hr=>by
  have hu:=hr.units
  unfold zHQ
  exact (zAK (zAZ (zB2 c_reached_past (hr.mono (by decide)) (zAA (v_var 0) (zAA (v_var 1) (zAA (v_tup zAE) zAE))))))
noncomputable def g_law:GS :=
 (gSeq (gFor (gAnyI (g2 addD (gLst [(gCall zBJ [(gVar 0),(gC (.int 0))])]) (zHI (gVar 0) (some (gC (.int 1))) (some (gC (.int 10)))))) (.nm 1)
 (gSeq (gAsg (.nm 2) (g2 ixD (zFJ zB0 (zFE zBK [(gVar 1),(gC (.int 0))]) [(gC (.int 24))]) (gC (.int 0))))
 (gSeq (gAsg (.nm 3) (gCall zBU [(gVar 2)]))
 (gSeq (gIfS (gOrT (gB (g2 neD (gVar 3) (gTup' [(g2 ixD (gVar 2) (gC (.int 0))),(gN tupD [(gN sortD [(gComp (gAnyI (g2 ixD (gVar 2) (gC (.int 1)))) 2 [] (.tp [(.nm 0),(.nm 1)]) gYes (gTup' [(gVar 1),(gVar 0)]))])])]))) (gOrT (gNotT (gTru (gCall zCW [(gVar 3)]))) (gB (g2 neD (gCall zBU [(gVar 3)]) (gVar 2)))))
 (gRet (gC (.bl false)))
 gNx)
 (gSeq (gSetF 4 (gC (.dk [])))
 (gSeq (gFor (gRng1 (g2 ixD (gVar 2) (gC (.int 0)))) (.nm 5)
 (gSeq (gAsg (.nm 6) (gCall zBP [(gVar 2),(gVar 5)]))
 (gSeq (gIfS (gOrT (gNotT (gTru (gInst "tuple" (gVar 6)))) (gB (g2 neD (gVar 6) (gN tupD [(gN sortD [(gCall zBE [(gVar 2),(gVar 5),(gC .non)])])]))))
 (gRet (gC (.bl false)))
 gNx)
 (zAO 4 (gVar 5) (gVar 6)))))
 (gFor (gRng1 (g2 ixD (gVar 2) (gC (.int 0)))) (.nm 5)
 (gIfS (gBorT [4] (gB (g2 neD (gCall zBP [(gVar 3),(gVar 5)]) (gN tupD [(gComp (gRng1 (g2 ixD (gVar 2) (gC (.int 0)))) 1 [4,5] (.nm 0) (gB (g2 inD (gVar 2) (g2 ixD (gVar 1) (gVar 0)))) (gVar 0))]))))
 (gRet (gC (.bl false)))
 gNx))))))))
 (gRet (gC (.bl true))))
noncomputable def m_law:Mr:=mkFn 7 g_law
theorem sclaw:FnScope ["script","cell","net","back","table","gate","found"] ["script"] (zAH s_law):=⟨rfl,rfl,rfl,by decide +kernel,rfl,by decide +kernel,by decide +kernel⟩
theorem zS7 {P:Program} {w:World} {K:PySem.W.Frag} {mg:Str→Option Value} {base:Heap} {f:Addr} {fd:FuncData} (Fn:Fun K "law" "law" s_law f fd) (T:Bt mg) (c_turned:Cal P w K mg base "turned" 1 1 zBU) (c__law_cell:Cal P w K mg base "_law_cell" 1 2 zBJ) (c__law_net:Cal P w K mg base "_law_net" 3 2 zB0) (c_reached:Cal P w K mg base "reached" 4 2 zBP) (c__law_well:Cal P w K mg base "_law_well" 1 2 zBK) (c_is_net:Cal P w K mg base "is_net" 4 1 zCW) (c__law_reach:Cal P w K mg base "_law_reach" 1 3 zBE):FnOk P w K mg base CX0 5 f fd ["script"] (spV K 1 m_law) :=
 fn_v Fn sclaw fun cdv A outer s H E hr=>by
  have hu:=hr.units
  unfold g_law
  exact (zAD (zDC PassesOwn.never rfl (zDE (v_add (FE.ve (f_lst (zAA (zB2 c__law_cell (hr.mono (by decide)) (zAA (v_var 0) (zAA v_int zAE))) zAE))) (zL6 (v_var 0) (zIJ v_int) (zIJ v_int)))) (zAN (i:=1) sclaw.nd rfl (Or.inl rfl))
   (zAD (zBF (i:=2) sclaw.nd rfl (Or.inl rfl) (v_ix hu (zQ1 c__law_net (hr.mono (by decide)) (zSU c__law_well (hr.mono (by decide)) (zAA (v_var 1) (zAA v_int zAE))) (zAA v_int zAE)) v_int))
   (zAD (zBF (i:=3) sclaw.nd rfl (Or.inl rfl) (zB2 c_turned (hr.mono (by decide)) (zAA (v_var 2) zAE)))
   (zAD (vs_if (VW.t (vw_or (vt_ne hu (v_var 3) (v_tup (zAA (v_ix hu (v_var 2) v_int) (zAA (zDM T.b_tuple (zAA (FE.ve (zD2 T.b_sorted (zAA (FE.ve (zEI (own:=["a","b"]) (caps:=[]) (js:=[]) ⟨rfl,rfl,by decide +kernel,by decide +kernel,by decide +kernel,rfl,mem0,rfl,mem0,mem0,by decide +kernel,by decide +kernel⟩ rfl (zDE (v_ix hu (v_var 2) v_int)) (fun C s H fp=>(zDB rfl (zAR (zAN (i:=0) (by decide +kernel:((["a","b"]:List Str)++([]:List Str)).Nodup) rfl (Or.inl rfl) (Or.inr rfl)) (zAR (zAN (i:=1) (by decide +kernel:((["a","b"]:List Str)++([]:List Str)).Nodup) rfl (Or.inl rfl) (Or.inr rfl)) zCF)))) (fun C s H fp=>zDJ) (fun C s H fp=>(v_tup (zAA (v_var 1) (zAA (v_var 0) zAE)))))) zAE))) zAE)) zAE)))) (vw_or (zDA (zBT (zB2 c_is_net (hr.mono (by decide)) (zAA (v_var 3) zAE)))) (zFD (vt_ne hu (zB2 c_turned (hr.mono (by decide)) (zAA (v_var 3) zAE)) (v_var 2))))))
   (zAK (zAZ v_bl))
   zA8)
   (zAD (zCG (i:=4) sclaw.nd rfl (Or.inr rfl) zIK)
   (zAD (zDC PassesOwn.never rfl (zCO T.b_range (v_ix hu (v_var 2) v_int)) (zAN (i:=5) sclaw.nd rfl (Or.inr rfl))
   (zAD (zBF (i:=6) sclaw.nd rfl (Or.inl rfl) (zB2 c_reached (hr.mono (by decide)) (zAA (v_var 2) (zAA (v_var 5) zAE))))
   (zAD (vs_if (VW.t (vw_or (zDA (zBT (zFI zDD T.b_isinstance T.b_tuple (by decide +kernel) (v_var 6)))) (zFD (vt_ne hu (v_var 6) (zDM T.b_tuple (zAA (FE.ve (zD2 T.b_sorted (zAA (zB2 c__law_reach (hr.mono (by decide)) (zAA (v_var 2) (zAA (v_var 5) (zAA v_non zAE)))) zAE))) zAE))))))
   (zAK (zAZ v_bl))
   zA8)
   (zAK (zA4 4 hu (v_var 5) (v_var 6))))))
   (zAK (zDC PassesOwn.never rfl (zCO T.b_range (v_ix hu (v_var 2) v_int)) (zAN (i:=5) sclaw.nd rfl (Or.inr rfl))
   (zAK (vs_if (zEF [4] (vt_ne hu (zB2 c_reached (hr.mono (by decide)) (zAA (v_var 3) (zAA (v_var 5) zAE))) (zDM T.b_tuple (zAA (FE.ve (zEI (own:=["place"]) (caps:=["table","gate"]) (js:=[4,5]) ⟨rfl,rfl,by decide +kernel,by decide +kernel,by decide +kernel,rfl,(al2 rfl rfl),rfl,(al2 (by first | exact Or.inl rfl | exact Or.inr rfl) (by first | exact Or.inl rfl | exact Or.inr rfl)),(al2 (by first | exact Or.inl rfl | exact Or.inr rfl) (by first | exact Or.inl rfl | exact Or.inr rfl)),by decide +kernel,by decide +kernel⟩ rfl (zCO T.b_range (v_ix hu (v_var 2) v_int)) (fun C s H fp=>(zAN (i:=0) (by decide +kernel:((["place"]:List Str)++(["table","gate"]:List Str)).Nodup) rfl (Or.inl rfl) (Or.inr rfl))) (fun C s H fp=>(zLY (vt_in hu (v_var 2) (v_ix hu (v_var 1) (v_var 0))))) (fun C s H fp=>(v_var 0)))) zAE))))
   (zAK (zAZ v_bl))
   zA8))))))))))
   (zAK (zAZ v_bl)))
end My
namespace L2
open PySem
theorem zAG {α β:Type} {x:Out α} {a:α} {f:α→Out β} {r:Out β} (h:x=.ok a) (h2:f a=r):x.bind f=r:=by rw [h]; exact h2
theorem zAI {g g':GS} {E E1:Ev} {r:Out Fl} (h:g E=.ok (.nx E1)) (h2:g' E1=r):gSeq g g' E=r:=by
 unfold gSeq; rw [h]; exact h2
theorem zJK {g g':GS} {E E1:Ev} {b:Bool} {d:D} (h:g E=.ok (.rt b d E1)):gSeq g g' E=.ok (.rt b d E1):=by
 unfold gSeq; rw [h]; rfl
theorem if_t {t:Ev→Out (Bool × Ev)} {g g':GS} {E E1:Ev} {r:Out Fl} (h:t E=.ok (true,E1)) (h2:g E1=r):gIfS t g g' E=r:=by
 unfold gIfS; rw [h]; exact h2
theorem if_f {t:Ev→Out (Bool × Ev)} {g g':GS} {E E1:Ev} {r:Out Fl} (h:t E=.ok (false,E1)) (h2:g' E1=r):gIfS t g g' E=r:=by
 unfold gIfS; rw [h]; exact h2
theorem zGI {t:Tg} {g:GS} (P:Nat→Ev→Prop):∀ {ds:List D} {E:Ev} (o:Nat),P o E →
  (∀ i d E,ds[i]?=some d→P (o+i) E→∃ E1,gTg t d E=.ok E1∧∃ E2,g E1=.ok (.nx E2)∧P (o+(i+1)) E2)→∃ E',gLoop t g ds E=.ok (.nx E')∧P (o+ds.length) E'
 | [],E,o,h0,_=>⟨E,rfl,h0⟩
 | d::ds,E,o,h0,hs=>by
  obtain ⟨E1,e1,E2,e2,p2⟩:=hs 0 d E rfl h0
  obtain ⟨E',e',p'⟩:=zGI P (ds:=ds) (E:=E2) (o+1) p2 fun i d' E3 hd hp=>by
   have:=hs (i+1) d' E3 (by simpa using hd) (by rw [show o+(i+1)=o+1+i by omega]; exact hp)
   rw [show o+(i+1+1)=o+1+(i+1) by omega] at this
   exact this
  refine ⟨E',?_,?_⟩
  ·unfold gLoop; rw [e1]; simp only [Out.bind]; rw [e2]; exact e'
  ·rw [List.length_cons,show o+(ds.length+1)=o+1+ds.length by omega]; exact p'
theorem zCR {gi:GI} {t:Tg} {g:GS} {E E1:Ev} {ds:List D} (P:Nat→Ev→Prop) (hi:gi E=.ok (ds,E1)) (h0:P 0 E1)
  (hs:∀ i d E,ds[i]?=some d→P i E→∃ E1,gTg t d E=.ok E1∧∃ E2,g E1=.ok (.nx E2)∧P (i+1) E2):∃ E',gFor gi t g E=.ok (.nx E')∧P ds.length E':=by
 obtain ⟨E',e,p⟩:=zGI (t:=t) (g:=g) P (ds:=ds) (E:=E1) 0 h0 (fun i d E hd hp=>by
  rw [Nat.zero_add] at hp ⊢; exact hs i d E hd hp)
 refine ⟨E',?_,by simpa using p⟩
 unfold gFor; rw [hi]; exact e
theorem zJL {t:Ev→Out (Bool × Ev)} {g:GS} (P:Nat→Ev→Prop) (Q:Ev→Prop)
  (hs:∀ n E,P n E→(∃ E1,t E=.ok (false,E1)∧Q E1)∨(∃ E1 E2 m,t E=.ok (true,E1)∧g E1=.ok (.nx E2)∧m<n∧P m E2)) :
  ∀ (fuel n:Nat) (E:Ev),n<fuel→P n E→∃ E',gWh t g fuel E=.ok (.nx E')∧Q E'
 | 0,n,E,hn,_=>by omega
 | fuel+1,n,E,hn,h=>by
  rcases hs n E h with ⟨E1,e1,q⟩ | ⟨E1,E2,m,e1,e2,hm,p⟩
  ·refine ⟨E1,?_,q⟩
   unfold gWh; rw [e1]; rfl
  ·obtain ⟨E',e',q⟩:=zJL P Q hs fuel m E2 (by omega) p
   refine ⟨E',?_,q⟩
   unfold gWh; rw [e1]; simp only [Out.bind,if_true]; rw [e2]; exact e'
theorem few_y {n:Nat} {α:Type} {x:Out α} (h:n<10000):few n x=x:=if_pos h
theorem zMI {t:Tg} {tt:Ev→Out (Bool × Ev)} {gm:GM} (f:D→List D) (M:Nat) (P:Ev→Prop):∀ {ds acc:List D} {E:Ev},P E→acc.length+ds.length * M<10000→(∀ d∈ds,(f d).length≤M) →
  (∀ d∈ds,∀ (acc:List D) (E:Ev),acc.length+M<10000→P E→∃ E1,gTg t d E=.ok E1∧∃ b E2,tt E1=.ok (b,E2)∧((b=true∧∃ E3,gm (.lst acc) E2=.ok (.lst (acc++f d),E3)∧P E3)∨(b=false∧f d=[]∧P E2))) →
  ∃ E',gClM t tt gm ds (.lst acc) E=.ok (.lst (acc++ds.flatMap f),E')∧P E'
 | [],acc,E,h0,_,_,_=>⟨E,by simp [gClM],h0⟩
 | d::ds,acc,E,h0,hl,hM,hs=>by
  rw [List.length_cons,Nat.succ_mul] at hl
  obtain ⟨E1,e1,b,E2,e2,h⟩:=hs d List.mem_cons_self acc E (by omega) h0
  have hd:=hM d List.mem_cons_self
  rcases h with ⟨rfl,E3,e3,p⟩ | ⟨rfl,ef,p⟩
  ·obtain ⟨E',e',p'⟩:=zMI f M P (ds:=ds) (acc:=acc++f d) (E:=E3) p (by rw [List.length_append]; omega) (fun d hd=>hM d (List.mem_cons_of_mem _ hd)) fun d hd=>hs d (List.mem_cons_of_mem _ hd)
   refine ⟨E',?_,p'⟩
   unfold gClM; rw [e1]; simp only [Out.bind]; rw [e2]; simp only [if_true]; rw [e3]; simp only; rw [e',List.flatMap_cons,List.append_assoc]
  ·obtain ⟨E',e',p'⟩:=zMI f M P (ds:=ds) (acc:=acc) (E:=E2) p (by omega) (fun d hd=>hM d (List.mem_cons_of_mem _ hd)) fun d hd=>hs d (List.mem_cons_of_mem _ hd)
   refine ⟨E',?_,p'⟩
   unfold gClM; rw [e1]; simp only [Out.bind]; rw [e2]; simp only [if_false,Bool.false_eq_true]; rw [e',List.flatMap_cons,ef,List.nil_append]
theorem zQ5 {ge:G} {acc:List D} {E E':Ev} {x:D} (h:ge E=.ok (x,E')) (hl:acc.length<10000):gEmit ge (.lst acc) E=.ok (.lst (acc++[x]),E'):=zAG h (few_y hl)
theorem zN9 {gi:GI} {k:Nat} {js:List Nat} {t:Tg} {tt:Ev→Out (Bool × Ev)} {gm:GM} {E E1:Ev} {ds:List D} (f:D→List D) (M:Nat) (P:Ev→Prop) (hi:gi E=.ok (ds,E1)) (h0:P (capE k js E1)) (hl:ds.length * M<10000) (hM:∀ d∈ds,(f d).length≤M)
  (hs:∀ d∈ds,∀ (acc:List D) (E:Ev),acc.length+M<10000→P E→∃ E1,gTg t d E=.ok E1∧∃ b E2,tt E1=.ok (b,E2)∧((b=true∧∃ E3,gm (.lst acc) E2=.ok (.lst (acc++f d),E3)∧P E3)∨(b=false∧f d=[]∧P E2)))
  (hb:∀ Ec,P Ec→bck E1 Ec k js=E1):zJB gi k js (.lst []) t tt gm E=.ok (.lst (ds.flatMap f),E1):=by
 obtain ⟨E',e',p'⟩:=zMI f M P (ds:=ds) (acc:=[]) h0 (by simpa using hl) hM hs
 unfold zJB; rw [hi]; simp only [Out.bind]; rw [e']; simp only [Out.bind,List.nil_append]; rw [hb _ p']
theorem zDN {gi:GI} {k:Nat} {js:List Nat} {t:Tg} {tt:Ev→Out (Bool × Ev)} {ge:G} {E E1:Ev} {ds:List D} (f:D→List D) (P:Ev→Prop) (hi:gi E=.ok (ds,E1)) (h0:P (capE k js E1)) (hl:ds.length<10000)
  (hs:∀ d∈ds,∀ E,P E→∃ E1,gTg t d E=.ok E1∧∃ b E2,tt E1=.ok (b,E2)∧((b=true∧∃ x E3,ge E2=.ok (x,E3)∧f d=[x]∧P E3)∨(b=false∧f d=[]∧P E2)))
  (hb:∀ Ec,P Ec→bck E1 Ec k js=E1):gComp gi k js t tt ge E=.ok (.lst (ds.flatMap f),E1):=by
 by_cases hP:∀ d∈ds,∃ E,P E
 ·refine zN9 f 1 P hi h0 (by omega) (fun d hd=>?_) (fun d hd acc E hacc hE=>?_) hb
  ·obtain ⟨E,hE⟩:=hP d hd
   obtain ⟨_,_,_,_,_,⟨_,x,_,_,ef,_⟩ | ⟨_,ef,_⟩⟩:=hs d hd E hE
   ·rw [ef]; exact Nat.le_refl _
   ·rw [ef]; exact Nat.zero_le _
  ·obtain ⟨E1,e1,b,E2,e2,⟨hb,x,E3,e3,ef,p⟩ | h⟩:=hs d hd E hE
   ·exact ⟨E1,e1,b,E2,e2,.inl ⟨hb,E3,by rw [ef]; exact zQ5 e3 (by omega),p⟩⟩
   ·exact ⟨E1,e1,b,E2,e2,.inr h⟩
 ·exact absurd (fun d hd=>⟨_,h0⟩) hP
noncomputable def Pl (n:Nat) (d:D):Prop:=∃ p,d.py=some p∧p.depth≤n∧p.canLay0=true
noncomputable def Pls (n:Nat) (ds:List D):Prop:=∃ ps,D.pys ds=some ps∧PyData.depthAll ps≤n∧PyData.canLayAll0 ps=true
theorem Pl.int (n:Nat) (i:Int):Pl n (.int i):=⟨_,rfl,Nat.zero_le _,rfl⟩
theorem Pls.nil (n:Nat):Pls n []:=⟨_,rfl,Nat.zero_le _,rfl⟩
theorem Pls.cons {n:Nat} {d:D} {ds:List D} (h:Pl n d) (t:Pls n ds):Pls n (d::ds):=by
 obtain ⟨p,e,a,b⟩:=h
 obtain ⟨ps,e2,a2,b2⟩:=t
 exact ⟨p::ps,by simp [D.pys,e,e2],by simp only [PyData.depthAll]; omega,by simp [PyData.canLayAll0,b,b2]⟩
theorem Pls.tup {n:Nat} {ds:List D} (t:Pls n ds):Pl (n+1) (.tup ds):=by
 obtain ⟨ps,e2,a2,b2⟩:=t
 exact ⟨.tuple ps,by simp [D.py,e2],by simp only [PyData.depth]; omega,b2⟩
theorem Pls.lst {n:Nat} {ds:List D} (t:Pls n ds):Pl (n+1) (.lst ds):=by
 obtain ⟨ps,e2,a2,b2⟩:=t
 exact ⟨.list ps,by simp [D.py,e2],by simp only [PyData.depth]; omega,b2⟩
theorem Pls.of {α:Type} {n:Nat} {f:α→D}:∀ {xs:List α},(∀ x∈xs,Pl n (f x))→Pls n (xs.map f)
 | [],_=>.nil n
 | x::xs,h=>.cons (h x List.mem_cons_self) (Pls.of fun y hy=>h y (List.mem_cons_of_mem _ hy))
theorem Pl.mono {n m:Nat} {d:D} (h:Pl n d) (l:n≤m):Pl m d:=let ⟨p,a,b,c⟩:=h; ⟨p,a,by omega,c⟩
theorem Pls.ints (n:Nat) (ns:List Int):Pls n (ns.map D.int):=Pls.of fun _ _=>.int _ _
theorem zTI {d:D} (h:Pl 60 d):eqD d d=.ok (.bl true):=by
 obtain ⟨p,e,a,b⟩:=h
 unfold eqD
 simp only [e]
 rw [if_pos (by omega),SeqAt.eqv_refl p b]
theorem zD3 {d:D} (h:Pl 60 d):neD d d=.ok (.bl false):=by
 obtain ⟨p,e,a,b⟩:=h
 unfold neD
 simp only [e]
 rw [if_pos (by omega),SeqAt.eqv_refl p b]; rfl
theorem zES (a b:Int):neD (.int a) (.int b)=.ok (.bl (decide (a≠b))):=by
 simp only [neD,D.py,PyData.depth,PyData.eqv]
 by_cases h:a=b <;> simp [h]
theorem zOA (a:Int):neD (.int a) .non=.ok (.bl true):=by
 simp [neD,D.py,PyData.depth,PyData.eqv]
theorem zMJ {n:Nat} {ds:List D} (h:Pls n ds):neD (.lst ds) (.lst [])=.ok (.bl (!ds.isEmpty)):=by
 obtain ⟨ps,e2,a2,b2⟩:=h
 have e0:D.pys []=some []:=by simp [D.pys]
 unfold neD
 simp only [D.py,e2,e0,Option.map]
 rw [if_pos (by simp only [PyData.depth,PyData.depthAll]; omega),PyData.eqv]
 cases ds with
 | nil=>rw [e0] at e2; cases e2; rfl
 | cons d ds =>
  cases ps with
  | nil =>
   simp only [D.pys] at e2
   split at e2 <;> simp at e2
  | cons p ps=>rfl
theorem zJM:∀ ns:List Int,D.pys (ns.map D.int)=some (ns.map PyData.int)
 | []=>by simp [D.pys]
 | n::ns=>by simp [D.pys,D.py,zJM ns]
theorem zIS (x:Int) (ns:List Int):inD (.int x) (.tup (ns.map D.int))=.ok (.bl (decide (x∈ns))):=by
 simp only [inD,zJM,D.py]
 rw [if_pos (show PyData.depth (.int x)≤60 from Nat.zero_le _),zI5]
theorem zKK (ns:List Int):sortD [.lst (ns.map D.int)]=.ok (.lst ((sortI ns).map D.int)):=by simp [sortD,zFH]
theorem zC4 (ps:List (Int × Int)):sortD [.lst (ps.map pairD)]=.ok (.lst ((sortP ps).map pairD)):=by
 cases ps with
 | nil=>simp [sortD,zA1,sortI,sortP]
 | cons p ps =>
  have:=zCH (p::ps)
  simp only [sortD]
  rw [this,show zA1 ((p::ps).map pairD)=none from rfl]
theorem zJN {α:Type} {xs:List α} {i:Int} {x:α} (h0:0≤i) (h:xs[i.toNat]?=some x):atI xs i=some x:=by
 have:=zK5 (xs:=xs) (j:=i.toNat) h
 rwa [show ((i.toNat:Nat):Int)=i by omega] at this
theorem zO7 {n:Nat} {i:Int} (h0:0≤i) (h:i<n):ixN n i=some i.toNat:=by
 unfold ixN; rw [if_pos h0,if_pos h]
section
variable {κ:Type} [DecidableEq κ]
theorem zDF (kvs:List (κ × D)) (k:κ) (v:D):kget (kput kvs k v) k=some v:=by
 unfold kput
 split
 ·rename_i h
  unfold kget
  induction kvs with
  | nil=>simp at h
  | cons kv kvs ih =>
   by_cases e:kv.1=k
   ·simp [e]
   ·simp only [List.any_cons,e,decide_false,Bool.false_or] at h
    have:=ih h
    simpa [e] using this
 ·rename_i h
  unfold kget
  rw [List.find?_append]
  have:(kvs.find? fun kv=>decide (kv.1=k))=none:=by
   rw [List.find?_eq_none]
   intro x hx z
   exact h (List.any_eq_true.mpr ⟨x,hx,z⟩)
  rw [this]; simp
theorem zET (kvs:List (κ × D)) {k k':κ} (v:D) (hk:k'≠k):kget (kput kvs k v) k'=kget kvs k':=by
 unfold kput
 split
 ·rename_i hh
  clear hh
  unfold kget
  induction kvs with
  | nil=>rfl
  | cons kv kvs ih =>
   rw [List.map_cons]
   by_cases e:kv.1=k
   ·rw [if_pos e,List.find?_cons,List.find?_cons]
    have:¬ kv.1=k':=fun z=>hk (z.symm.trans e)
    simp only [this,decide_false]
    exact ih
   ·rw [if_neg e,List.find?_cons,List.find?_cons]
    by_cases e2:kv.1=k'
    ·simp [e2]
    ·simp only [e2,decide_false]
     exact ih
 ·unfold kget
  rw [List.find?_append]
  have:(List.find? (fun kv:κ × D=>decide (kv.1=k')) [(k,v)])=none:=by simp [Ne.symm hk]
  rw [this]; simp
theorem zD4 (kvs:List (κ × D)) (k:κ) (v:D):(kput kvs k v).length≤kvs.length+1:=by
 unfold kput; split
 ·simp
 ·simp
end
theorem zBA {m:Mr} {gs:List G} {E E':Ev} {ds:List D} {b:Bool} {d d':D} (h1:gArgs gs E=.ok (ds,E')) (h2:m (ds.map Sl.val)=.ok (b,d,d')):gCall m gs E=.ok (d,E'):=zAG h1 (zAG h2 rfl)
theorem zOB {E:Ev}:gArgs [] E=.ok ([],E):=rfl
theorem zAL {g:G} {gs:List G} {E E1 E2:Ev} {d:D} {ds:List D} (h1:g E=.ok (d,E1)) (h2:gArgs gs E1=.ok (ds,E2)):gArgs (g::gs) E=.ok (d::ds,E2):=zAG h1 (zAG h2 rfl)
theorem args1 {g:G} {E E1:Ev} {d:D} (h1:g E=.ok (d,E1)):gArgs [g] E=.ok ([d],E1):=zAL h1 zOB
theorem gN_ok {f:List D→Out D} {gs:List G} {E E':Ev} {ds:List D} {d:D} (h1:gArgs gs E=.ok (ds,E')) (h2:f ds=.ok d):gN f gs E=.ok (d,E'):=zAG h1 (zAG h2 rfl)
theorem zFN {gs:List G} {E E':Ev} {ds:List D} (h1:gArgs gs E=.ok (ds,E')) (h2:ds.length<10000):gTup' gs E=.ok (.tup ds,E'):=zAG h1 (few_y h2)
theorem zDX {gs:List G} {E E':Ev} {ds:List D} (h1:gArgs gs E=.ok (ds,E')) (h2:ds.length<10000):gLst gs E=.ok (.lst ds,E'):=zAG h1 (few_y h2)
theorem zBQ {g:G} {E E':Ev} {d:D} (h:g E=.ok (d,E')):gRet g E=.ok (.rt false d E'):=zAG h rfl
theorem zMK {g:G} {E E':Ev} {d:D} (h:g E=.ok (d,E')):gRetF g E=.ok (.rt true d E'):=zAG h rfl
theorem zA7 {g:G} {t:Tg} {E E' E2:Ev} {d:D} (h:g E=.ok (d,E')) (h2:gTg t d E'=.ok E2):gAsg t g E=.ok (.nx E2):=zAG h (zAG h2 rfl)
theorem zCI {g:G} {i:Nat} {E E':Ev} {d:D} (h:g E=.ok (d,E')):gSetF i g E=.ok (.nx (E'.set i (.own false d))):=zAG h rfl
theorem zIT {g:G} {E E':Ev} {d:D} (h:g E=.ok (d,E')):gDrop g E=.ok (.nx E'):=zAG h rfl
theorem g2_ok {f:D→D→Out D} {ga gb:G} {E E1 E2:Ev} {x y d:D} (h1:ga E=.ok (x,E1)) (h2:gb E1=.ok (y,E2)) (h3:f x y=.ok d):g2 f ga gb E=.ok (d,E2):=zAG h1 (zAG h2 (zAG h3 rfl))
theorem gB_ok {g:G} {E E':Ev} {b:Bool} (h:g E=.ok (.bl b,E')):gB g E=.ok (b,E'):=zAG h rfl
theorem tru_y {g:G} {E E':Ev} {d:D} {b:Bool} (h:g E=.ok (d,E')) (h2:truD d=.ok b):gTru g E=.ok (b,E'):=zAG h (zAG h2 rfl)
theorem zCJ {t:Ev→Out (Bool × Ev)} {E E':Ev} {b:Bool} (h:t E=.ok (b,E')):gNotT t E=.ok (!b,E'):=zAG h rfl
theorem orT_f {t u:Ev→Out (Bool × Ev)} {E E':Ev} {r:Out (Bool × Ev)} (h:t E=.ok (false,E')) (h2:u E'=r):gOrT t u E=r:=zAG h h2
theorem zFO {t u:Ev→Out (Bool × Ev)} {E E':Ev} {r:Out (Bool × Ev)} (h:t E=.ok (true,E')) (h2:u E'=r):gAndT t u E=r:=zAG h h2
theorem zML {t u:Ev→Out (Bool × Ev)} {E E':Ev} (h:t E=.ok (false,E')):gAndT t u E=.ok (false,E'):=zAG h rfl
theorem zCZ {is:List Nat} {g:G} {E E':Ev} {d:D} (h:g (hide is E)=.ok (d,E')) (h2:zEE is E d=true):gBor is g E=.ok (d,E):=zAG h (if_pos h2)
theorem zQ6 {is:List Nat} {g:G} {E E':Ev} {d:D} (h:g (hide is E)=.ok (d,E')) (h2:d.kids=true):gBorF is g E=.ok (d,E):=zAG h (if_pos h2)
theorem zBL {is:List Nat} {g:Ev→Out (Bool × Ev)} {E E':Ev} {d:Bool} (h:g (hide is E)=.ok (d,E')):gBorT is g E=.ok (d,E):=zAG h rfl
theorem fn_rt {n:Nat} {gb:GS} {sl E':Ev} {b:Bool} {d:D} {r:Out (Bool × D × D)} (h:gb (sl++List.replicate (n - sl.length) .no)=.ok (.rt b d E')) (h2:fin sl E' b d=r):mkFn n gb sl=r:=zAG h h2
theorem zDO {c:String} {g:G} {E E':Ev} {d:D} (h:g E=.ok (d,E')):gInst c g E=.ok (.bl (isB (tyN d) c),E'):=zAG h rfl
theorem zEU {g:G} {E E':Ev} {j:Int} (h:g E=.ok (.int j,E')) (h2:zEL j):gRng1 g E=.ok (rngL 0 j.toNat,E'):=zAG h (if_pos h2)
theorem zQ7 {g g':G} {E E1 E':Ev} {i j:Int} (h:g E=.ok (.int i,E1)) (h1:g' E1=.ok (.int j,E')) (h2:zEL i∧zEL j):gRng2 g g' E=.ok (rngL i (j - i).toNat,E'):=zAG h (zAG h1 (if_pos h2))
theorem zGJ {g:G} {E E':Ev} {ds:List D} (h:g E=.ok (.lst ds,E')):gAnyI g E=.ok (ds,E'):=zAG h rfl
theorem zMM {g:G} {E E':Ev} {ds:List D} (h:g E=.ok (.tup ds,E')):gAnyI g E=.ok (ds,E'):=zAG h rfl
theorem zA5 {i:Nat} {gk gv:G} {E E1 E2:Ev} {t t2:Bool} {d0 d v k d':D} (h0:E[i]?=some (.own t2 d0)) (h1:gv E=.ok (v,E1)) (h2:gk E1=.ok (k,E2)) (h3:E2[i]?=some (.own t d)) (h4:setD d k v=.ok d'):zAO i gk gv E=.ok (.nx (E2.set i (.own t d'))):=by
 unfold zAO; rw [h0]; simp only; rw [h1]; simp only [Out.bind]; rw [h2]; simp only [h3]; rw [h4]
theorem zJO {m:Mr} {i:Nat} {gs:List G} {E E1:Ev} {t t2:Bool} {d0 d x d':D} {ds:List D} {b:Bool} (h0:E[i]?=some (.own t2 d0)) (h1:gArgs gs E=.ok (ds,E1)) (h2:E1[i]?=some (.own t d)) (h3:m (.own true d::ds.map Sl.val)=.ok (b,x,d')):zAM m i gs E=.ok (x,E1.set i (.own t d')):=by
 unfold zAM; rw [h0]; simp only; rw [h1]; simp only [Out.bind,h2]; rw [h3]
theorem zEV {i:Nat} {f:List D→List D→Out (D × List D)} {gs:List G} {E E1:Ev} {t t2:Bool} {xs0 xs:List D} {ds ds':List D} {x:D} (h0:E[i]?=some (.own t2 (.lst xs0))) (h1:gArgs gs E=.ok (ds,E1)) (h2:E1[i]?=some (.own t (.lst xs))) (h3:f xs ds=.ok (x,ds')):gMeth i f gs E=.ok (x,E1.set i (.own t (.lst ds'))):=by
 unfold gMeth; rw [h0]; simp only; rw [h1]; simp only [Out.bind,h2]; rw [h3]
theorem zOC {m:Mr} {gf:G} {gs:List G} {E E1 E2:Ev} {d x d':D} {ds:List D} {b:Bool} (h0:gf E=.ok (d,E1)) (h1:gArgs gs E1=.ok (ds,E2)) (h3:m (.own true d::ds.map Sl.val)=.ok (b,x,d')):zFJ m gf gs E=.ok (x,E2):=zAG h0 (zAG h1 (zAG h3 rfl))
theorem zOD {m:Mr} {gs:List G} {E E':Ev} {ds:List D} {d d':D} (h1:gArgs gs E=.ok (ds,E')) (h2:m (ds.map Sl.val)=.ok (true,d,d')):zFE m gs E=.ok (d,E'):=zAG h1 (zAG h2 rfl)
theorem zO8 {gd gk gx:G} {E E1 E2 E3:Ev} {a k x:D} {o:Option D} (h1:gd E=.ok (a,E1)) (h2:gk E1=.ok (k,E2)) (h3:gx E2=.ok (x,E3)) (h4:dgetD a k=some o):gGet gd gk gx E=.ok (o.getD x,E3):=zAG h1 (zAG h2 (zAG h3 (by simp only [h4])))
theorem and_t {ga gb:G} {E E1:Ev} {r:Out (D × Ev)} (h:ga E=.ok (.bl true,E1)) (h2:gb E1=r):gAnd ga gb E=r:=zAG h h2
theorem zS8 {ga:G} {E E1:Ev} {b:Bool} (h:ga E=.ok (.bl b,E1)):gNot ga E=.ok (.bl (!b),E1):=zAG h rfl
theorem zMN {f f':D→D→Out D} {ga gb gc:G} {E E1 E2 E3:Ev} {x y z d:D} (h1:ga E=.ok (x,E1)) (h2:gb E1=.ok (y,E2)) (h3:f x y=.ok (.bl true)) (h4:gc E2=.ok (z,E3)) (h5:f' y z=.ok d):zDT f f' ga gb gc E=.ok (d,E3):=zAG h1 (zAG h2 (zAG h3 (zAG h4 (zAG h5 rfl))))
theorem blT {p:Prop} [Decidable p] (h:p):(Out.ok (D.bl (decide p)):Out D)=.ok (.bl true):=by rw [decide_eq_true h]
theorem blF {p:Prop} [Decidable p] (h:¬ p):(Out.ok (D.bl (decide p)):Out D)=.ok (.bl false):=by rw [decide_eq_false h]
theorem len_l {ds:List D} {n:Nat} (h:ds.length=n):lenD [.lst ds]=.ok (.int n):=by subst h; rfl
theorem len_t {ds:List D} {n:Nat} (h:ds.length=n):lenD [.tup ds]=.ok (.int n):=by subst h; rfl
theorem add_l {a b c:List D} (h:a.length+b.length<10000) (e:a++b=c):addD (.lst a) (.lst b)=.ok (.lst c):=by subst e; exact few_y h
theorem zS9 {o:Option D} {d:D} (h:o=some d):(match o with | some d=>Out.ok d | none=>.bad)=.ok d:=by subst h; rfl
theorem ix_l {ds:List D} {i:Int} {d:D} (h:atI ds i=some d):ixD (.lst ds) (.int i)=.ok d:=zS9 h
theorem zQ8 {o:Option (Option D)} {d:D} (h:o=some (some d)):(match o with | some (some d)=>Out.ok d | _=>.bad)=.ok d:=by subst h; rfl
theorem ix_k {kvs:List (Key × D)} {i:Int} {d:D} (h:kget kvs (.inl i)=some d):ixD (.dk kvs) (.int i)=.ok d:=zQ8 (congrArg some h)
theorem set_l {ds:List D} {i:Int} {j:Nat} {v:D} (h:ixN ds.length i=some j):setD (.lst ds) (.int i) v=.ok (.lst (ds.set j v)):=by
 show (match ixN ds.length i with | some j=>Out.ok (D.lst (ds.set j v)) | none=>.bad)=_
 rw [h]
theorem set_k {kvs:List (Key × D)} {i:Int} {v:D} (h:kvs.length<10000):setD (.dk kvs) (.int i) v=.ok (.dk (kput kvs (.inl i) v)):=few_y h
end L2
namespace My
open PySem L2
theorem mod_i {i j:Int} (h:0<j):modD (.int i) (.int j)=.ok (.int (i % j)):=if_pos h
theorem zO9 {i j:Int} (h:0<j∧j<1073741824):fdivD (.int i) (.int j)=.ok (.int (i / j)):=if_pos h
theorem mul_i {i j:Int} (h:zDK i∨zDK j):mulD (.int i) (.int j)=.ok (.int (i * j)):=if_pos h
theorem pow_i {i j:Int} (h:0≤j∧j≤1000000∧i.natAbs<2 ^ 64):powD (.int i) (.int j)=.ok (.int (i ^ j.toNat)):=if_pos h
noncomputable def tenv (a b c n:Int) (u2 u3 u4:Sl):Ev:=[.own true (.lst [.int a,.int b,.int c]),.val (.int n),u2,u3,u4]
theorem zPA {a b c n:Int} {u2 u3 u4:Sl}:gBorT [0] (gB (g2 gtD (g2 ixD (gVar 0) (gC (.int 0))) (gC (.int 0)))) (tenv a b c n u2 u3 u4)=.ok (decide (0<a),tenv a b c n u2 u3 u4) :=
 zBL (gB_ok (g2_ok (g2_ok (x:=.lst [.int a,.int b,.int c]) (y:=.int 0) rfl rfl (d:=.int a) rfl) (y:=.int 0) rfl rfl))
theorem zOE {a b c n:Int} (ha:0<a) (hn:1≤n) (hn2:n<1073741824) :
  zAB [.own true (.lst [.int a,.int b,.int c]),.val (.int n)]=.ok (false,.int (a % n),.lst [.int (a / n),.int b,.int c]):=by
 have h1:0<n:=by omega
 have t:=zPA (a:=a) (b:=b) (c:=c) (n:=n) (u2:=.no) (u3:=.no) (u4:=.no)
 rw [decide_eq_true ha] at t
 exact fn_rt (zJK (if_t t (zAI (E1:=tenv a b c n (.val (.int (a % n))) .no .no) (zA7 (zCZ (g2_ok (g2_ok (x:=.lst [.int a,.int b,.int c]) (y:=.int 0) rfl rfl (d:=.int a) rfl) (y:=.int n) rfl (mod_i h1)) rfl) rfl)
  (zAI (E1:=tenv (a / n) b c n (.val (.int (a % n))) .no .no) (zA5 (i:=0) (E1:=tenv a b c n (.val (.int (a % n))) .no .no) (E2:=tenv a b c n (.val (.int (a % n))) .no .no) (t:=true) (d:=.lst [.int a,.int b,.int c]) (k:=.int 0) (d':=.lst [.int (a / n),.int b,.int c]) rfl (zCZ (g2_ok (g2_ok (x:=.lst [.int a,.int b,.int c]) (y:=.int 0) rfl rfl (d:=.int a) rfl) (y:=.int n) rfl (zO9 ⟨h1,hn2⟩)) rfl) rfl rfl rfl) (zBQ (d:=.int (a % n)) rfl))))) rfl
noncomputable def rndA (b c:Int):Int:=(b+1000003 * c) % 2305843009213693951
noncomputable def rndB (b c:Int):Int:=(rndA b c * rndA b c+7919 * c ^ 2+5) % 2305843009213693951
theorem s64 {i:Int} (h0:0≤i) (h:i<2305843009213693951):zDK i:=⟨by omega,by omega⟩
theorem zOF {a b c n:Int} (ha:¬ 0<a) (hc:0≤c) (hc2:c<1000000) (hn:1≤n) (hn2:n<1073741824) :
  zAB [.own true (.lst [.int a,.int b,.int c]),.val (.int n)]=.ok (false,.int (rndB b (c+1) ^ 3 % 2305843009213693951 / 13 % n),.lst [.int a,.int b,.int (c+1)]):=by
 have h1:0<n:=by omega
 have m1:0≤rndA b (c+1):=Int.emod_nonneg _ (by decide)
 have m2:rndA b (c+1)<2305843009213693951:=Int.emod_lt_of_pos _ (by decide)
 have m3:0≤rndB b (c+1):=Int.emod_nonneg _ (by decide)
 have m4:rndB b (c+1)<2305843009213693951:=Int.emod_lt_of_pos _ (by decide)
 have t:=zPA (a:=a) (b:=b) (c:=c) (n:=n) (u2:=.no) (u3:=.no) (u4:=.no)
 rw [decide_eq_false ha] at t
 have hp:(0:Int)<2305843009213693951:=by decide
 have bag:gVar 0 (hide [0] (tenv a b (c+1) n .no .no .no))=.ok (.lst [.int a,.int b,.int (c+1)],hide [0] (tenv a b (c+1) n .no .no .no)):=rfl
 have s1:zAO 0 (gC (.int 2)) (gBor [0] (g2 addD (g2 ixD (gVar 0) (gC (.int 2))) (gC (.int 1)))) (tenv a b c n .no .no .no)=.ok (.nx (tenv a b (c+1) n .no .no .no)) :=
  zA5 (i:=0) (E1:=tenv a b c n .no .no .no) (E2:=tenv a b c n .no .no .no) (t:=true) (d:=.lst [.int a,.int b,.int c]) (k:=.int 2) (d':=.lst [.int a,.int b,.int (c+1)]) rfl (zCZ (g2_ok (g2_ok (x:=.lst [.int a,.int b,.int c]) (y:=.int 2) rfl rfl (d:=.int c) rfl) (y:=.int 1) rfl rfl) rfl) rfl rfl rfl
 have s3:gAsg (.nm 4) (gBor [0] (g2 modD (g2 addD (g2 ixD (gVar 0) (gC (.int 1))) (g2 mulD (gC (.int 1000003)) (g2 ixD (gVar 0) (gC (.int 2))))) (gVar 3))) (tenv a b (c+1) n .no (.val (.int 2305843009213693951)) .no)=.ok (.nx (tenv a b (c+1) n .no (.val (.int 2305843009213693951)) (.val (.int (rndA b (c+1)))))) :=
  zA7 (zCZ (d:=.int (rndA b (c+1))) (g2_ok (g2_ok (g2_ok (x:=.lst [.int a,.int b,.int (c+1)]) (y:=.int 1) rfl rfl (d:=.int b) rfl) (g2_ok (x:=.int 1000003) rfl (g2_ok (x:=.lst [.int a,.int b,.int (c+1)]) (y:=.int 2) rfl rfl (d:=.int (c+1)) rfl) (mul_i (.inl ⟨by decide,by decide⟩))) rfl) (y:=.int 2305843009213693951) rfl (mod_i hp)) rfl) rfl
 have s4:gAsg (.nm 4) (gBor [0] (g2 modD (g2 addD (g2 addD (g2 mulD (gVar 4) (gVar 4)) (g2 mulD (gC (.int 7919)) (g2 powD (g2 ixD (gVar 0) (gC (.int 2))) (gC (.int 2))))) (gC (.int 5))) (gVar 3))) (tenv a b (c+1) n .no (.val (.int 2305843009213693951)) (.val (.int (rndA b (c+1)))))=.ok (.nx (tenv a b (c+1) n .no (.val (.int 2305843009213693951)) (.val (.int (rndB b (c+1)))))) :=
  zA7 (zCZ (d:=.int (rndB b (c+1))) (g2_ok (g2_ok (g2_ok (g2_ok (x:=.int (rndA b (c+1))) (y:=.int (rndA b (c+1))) rfl rfl (mul_i (.inl (s64 m1 m2)))) (g2_ok (x:=.int 7919) rfl (g2_ok (g2_ok (x:=.lst [.int a,.int b,.int (c+1)]) (y:=.int 2) rfl rfl (d:=.int (c+1)) rfl) (y:=.int 2) rfl (pow_i ⟨by decide,by decide,by omega⟩)) (mul_i (.inl ⟨by decide,by decide⟩))) rfl) (y:=.int 5) rfl rfl) (y:=.int 2305843009213693951) rfl (mod_i hp)) rfl) rfl
 have s5:gRet (g2 modD (g2 fdivD (g2 modD (g2 powD (gVar 4) (gC (.int 3))) (gVar 3)) (gC (.int 13))) (gVar 1)) (tenv a b (c+1) n .no (.val (.int 2305843009213693951)) (.val (.int (rndB b (c+1)))))=.ok (.rt false (.int (rndB b (c+1) ^ 3 % 2305843009213693951 / 13 % n)) (tenv a b (c+1) n .no (.val (.int 2305843009213693951)) (.val (.int (rndB b (c+1)))))) :=
  zBQ (g2_ok (g2_ok (g2_ok (g2_ok (x:=.int (rndB b (c+1))) (y:=.int 3) rfl rfl (pow_i ⟨by decide,by decide,by omega⟩)) (y:=.int 2305843009213693951) rfl (mod_i hp)) (y:=.int 13) rfl (zO9 ⟨by decide,by decide⟩)) (y:=.int n) rfl (mod_i h1))
 exact fn_rt (zAI (if_f t rfl) (zAI s1 (zAI (E1:=tenv a b (c+1) n .no (.val (.int 2305843009213693951)) .no) rfl (zAI s3 (zAI s4 s5))))) rfl
noncomputable def Bag (k:Nat) (d:D):Prop:=∃ a b c:Int,d=.lst [.int a,.int b,.int c]∧0≤c∧c≤k
theorem Bag.mono {k k':Nat} {d:D} (h:Bag k d) (l:k≤k'):Bag k' d:=by
 obtain ⟨a,b,c,e,h0,h1⟩:=h
 exact ⟨a,b,c,e,h0,by omega⟩
theorem zQ9 {k:Nat} {d:D} {n:Int} (B:Bag k d) (hk:k<900000) (hn:1≤n) (hn2:n<1073741824) :
  ∃ r d',zAB [.own true d,.val (.int n)]=.ok (false,.int r,d')∧0≤r∧r<n∧Bag (k+1) d':=by
 obtain ⟨a,b,c,rfl,h0,h1⟩:=B
 by_cases ha:0<a
 ·exact ⟨_,_,zOE ha hn hn2,Int.emod_nonneg _ (by omega),Int.emod_lt_of_pos _ (by omega),_,_,_,rfl,h0,by omega⟩
 ·exact ⟨_,_,zOF ha h0 (by omega) hn hn2,Int.emod_nonneg _ (by omega),Int.emod_lt_of_pos _ (by omega),_,_,_,rfl,by omega,by omega⟩
theorem zRA (n:Int):∃ d,zBK [.val (.int n),.val (.int 0)]=.ok (true,d,.non)∧Bag 0 d:=by
 have hp:(0:Int)<2305843009213693951:=by decide
 have pw:∀ E:Ev,g2 powD (gC (.int 10)) (gC (.int 18)) E=.ok (.int 1000000000000000000,E):=fun E=>g2_ok (x:=.int 10) (y:=.int 18) rfl rfl (pow_i ⟨by decide,by decide,by decide⟩)
 have t:gB (g2 geD (gVar 0) (g2 powD (gC (.int 10)) (gC (.int 18)))) [.val (.int n),.val (.int 0)]=.ok (decide (1000000000000000000≤n),[.val (.int n),.val (.int 0)]):=gB_ok (g2_ok (x:=.int n) rfl (pw _) rfl)
 by_cases h:1000000000000000000≤n
 ·rw [decide_eq_true h] at t
  exact ⟨.lst [.int (n - 1000000000000000000),.int (n % 2305843009213693951),.int 0],fn_rt (zJK (if_t t (zMK (zDX (zAL (g2_ok (x:=.int n) rfl (pw _) (d:=.int (n - 1000000000000000000)) rfl) (zAL (g2_ok (x:=.int n) (y:=.int 2305843009213693951) rfl rfl (mod_i hp)) (args1 (d:=.int 0) rfl))) (show 3<10000 by decide))))) rfl,_,_,_,rfl,by decide,by decide⟩
 ·rw [decide_eq_false h] at t
  exact ⟨.lst [.int 0,.int (n % 2305843009213693951),.int 0],fn_rt (zAI (if_f t rfl) (zMK (zDX (zAL (d:=.int 0) rfl (zAL (g2_ok (x:=.int n) (y:=.int 2305843009213693951) rfl rfl (mod_i hp)) (args1 (d:=.int 0) rfl))) (show 3<10000 by decide)))) rfl,_,_,_,rfl,by decide,by decide⟩
end My
namespace My
open PySem L2
noncomputable def netD (many:Int) (ps:List (Int × Int)):D:=.tup [.int many,.tup (ps.map pairD)]
noncomputable def swapP (p:Int × Int):Int × Int:=(p.2,p.1)
structure Net (many:Int) (ps:List (Int × Int)):Prop where
 m1:1≤many
 m2:many≤24
 len:ps.length≤120
 rg:∀ p∈ps,0≤p.1∧p.1<many∧0≤p.2∧p.2<many∧p.1≠p.2
 pw:ps.Pairwise fun a b=>ltP a b=true
noncomputable def back (ps:List (Int × Int)):List (Int × Int):=sortP (ps.map swapP)
theorem zGK (Ec:Ev) (k:Nat):∀ (j:Nat) (E:Ev),bckF Ec k [] j E=E
 | _,[]=>rfl
 | j,s::E=>by
  rw [bckF,zGK Ec k (j+1) E]
  cases s <;> rfl
theorem zMO {E:Ev} (h:E.length=2):∃ x y,E=[x,y]:=by
 match E,h with
 | [x,y],_=>exact ⟨x,y,rfl⟩
theorem zHR {gi:GI} {E E1:Ev} {ps:List (Int × Int)} (hi:gi E=.ok (ps.map pairD,E1)) (hl:ps.length<10000) :
  gComp gi 2 [] (.tp [.nm 0,.nm 1]) gYes (gTup' [gVar 1,gVar 0]) E=.ok (.lst ((ps.map swapP).map pairD),E1):=by
 have:=zDN (k:=2) (js:=[]) (t:=.tp [.nm 0,.nm 1]) (tt:=gYes) (ge:=gTup' [gVar 1,gVar 0]) (fun d=>match d with | .tup [a,b]=>[.tup [b,a]] | _=>[]) (fun E=>E.length=2) hi rfl (by simpa using hl) (fun d hd E hE=>by
  obtain ⟨p,_,rfl⟩:=List.mem_map.mp hd
  obtain ⟨x,y,rfl⟩:=zMO hE
  exact ⟨_,rfl,true,_,rfl,.inl ⟨rfl,_,_,rfl,rfl,rfl⟩⟩) fun Ec _=>zGK Ec 2 0 E1
 rw [this]
 congr 3
 clear this hi hl
 induction ps with
 | nil=>rfl
 | cons p ps ih=>simp only [List.map_cons,List.flatMap_cons,ih]; rfl
theorem zHS {many:Int} {ps:List (Int × Int)} (hl:ps.length<10000):zBU [.val (netD many ps)]=.ok (false,netD many (back ps),.non):=by
 have h1:=zHR (gi:=gAnyI (gVar 2)) (E:=[.val (netD many ps),.val (.int many),.val (.tup (ps.map pairD))]) (E1:=[.val (netD many ps),.val (.int many),.val (.tup (ps.map pairD))]) (ps:=ps) rfl hl
 exact fn_rt (zAI (zA7 (d:=netD many ps) rfl rfl) (zBQ (zFN (zAL (d:=.int many) rfl (args1 (gN_ok (args1 (gN_ok (args1 h1) (zC4 _))) rfl))) (show 2<10000 by decide)))) rfl
theorem zMP (ps:List (Int × Int)):(ps.map swapP).map swapP=ps:=by
 rw [List.map_map]
 exact (List.map_congr_left (g:=id) fun p _=>rfl).trans (List.map_id _)
theorem pw_le {ps:List (Int × Int)} (h:ps.Pairwise fun a b=>ltP a b=true):ps.Pairwise fun a b=>leP a b=true :=
 h.imp fun {a b} e=>by
  simp only [leP,ltP,decide_eq_true_eq,Bool.not_eq_true',decide_eq_false_iff_not] at *
  omega
theorem zMQ {ps:List (Int × Int)} (h:ps.Pairwise fun a b=>ltP a b=true):back (back ps)=ps:=by
 symm
 unfold back
 refine zJG ?_ (pw_le h)
 have:=(zBW (ps.map swapP)).map swapP
 rw [zMP] at this
 exact this.symm
theorem zIU {a b:Int × Int} (h:leP a b=true) (hn:a≠b):ltP a b=true:=by
 obtain ⟨a1,a2⟩:=a
 obtain ⟨b1,b2⟩:=b
 simp only [leP,ltP,decide_eq_true_eq,Bool.not_eq_true',decide_eq_false_iff_not] at *
 have:¬ (a1=b1∧a2=b2):=fun ⟨x,y⟩=>hn (by rw [x,y])
 omega
theorem zTA {a b:Int × Int} (h:ltP a b=true):a≠b:=fun z=>by
 subst z
 simp only [ltP,decide_eq_true_eq] at h
 omega
theorem zJP {ps:List (Int × Int)} (h:ps.Nodup):(sortP ps).Pairwise fun a b=>ltP a b=true:=by
 have h2:(sortP ps).Nodup:=(zBW ps).nodup_iff.mpr h
 exact ((zJF ps).and h2).imp fun {a b} e=>zIU e.1 e.2
theorem Net.back {many:Int} {ps:List (Int × Int)} (N:Net many ps):Net many (back ps):=by
 have pm:=zBW (ps.map swapP)
 refine ⟨N.m1,N.m2,?_,fun p hp=>?_,zJP ?_⟩
 ·unfold My.back; rw [pm.length_eq,List.length_map]; exact N.len
 ·obtain ⟨q,hq,rfl⟩:=List.mem_map.mp (pm.mem_iff.mp hp)
  obtain ⟨a,b,c,d,e⟩:=N.rg q hq
  exact ⟨c,d,a,b,Ne.symm e⟩
 ·have:ps.Nodup:=N.pw.imp fun e=>zTA e
  exact List.Pairwise.map _ (fun a b hab z=>hab (by obtain ⟨a1,a2⟩:=a; obtain ⟨b1,b2⟩:=b; simp only [swapP,Prod.mk.injEq] at z; rw [z.1,z.2])) this
section
theorem zJQ (x:Int):zBD [.val (.int x)]=.ok (false,.bl true,.non) :=
 fn_rt (zBQ (and_t (E1:=[.val (.int x)]) (zDO (d:=.int x) rfl) (zS8 (b:=false) (zDO (d:=.int x) rfl)))) rfl
theorem zJR {many x:Int} (h0:0≤x) (h1:x<many):zCC [.val (.int many),.val (.int x)]=.ok (false,.bl true,.non) :=
 fn_rt (zBQ (and_t (zBA (ds:=[.int x]) rfl (zJQ x)) (zMN (x:=.int 0) (y:=.int x) rfl rfl (blT h0) (z:=.int many) rfl (blT h1)))) rfl
theorem zRB {many:Int} {p:Int × Int} (h:0≤p.1∧p.1<many∧0≤p.2∧p.2<many∧p.1≠p.2):zCQ [.val (.int many),.val (pairD p)]=.ok (false,.bl true,.non):=by
 obtain ⟨a,b,c,d,e⟩:=h
 have t1:gOrT (gNotT (gTru (gInst "tuple" (gVar 1)))) (gB (g2 neD (gN lenD [(gVar 1)]) (gC (.int 2)))) [.val (.int many),.val (pairD p),.no,.no]=.ok (false,[.val (.int many),.val (pairD p),.no,.no]) :=
  orT_f (zCJ (b:=true) (tru_y (zDO (d:=pairD p) rfl) rfl)) (gB_ok (g2_ok (gN_ok (args1 (d:=pairD p) rfl) rfl) (y:=.int 2) rfl (zES 2 2)))
 exact fn_rt (zAI (if_f t1 rfl) (zAI (E1:=[.val (.int many),.val (pairD p),.val (.int p.1),.val (.int p.2)]) (zA7 (d:=pairD p) rfl rfl) (zBQ (and_t (zBA (ds:=[.int many,.int p.1]) rfl (zJR a b)) (and_t (zBA (ds:=[.int many,.int p.2]) rfl (zJR c d)) (g2_ok (x:=.int p.1) (y:=.int p.2) rfl rfl (d:=.bl true) (by rw [zES,decide_eq_true e]))))))) rfl
theorem zTB {many:Int} {ps:List (Int × Int)} (hm1:1≤many) (hm2:many≤24):gOrT (gNotT (gTru (gCall zBD [(gVar 1)]))) (gNotT (gB (zDT leD leD (gC (.int 1)) (gVar 1) (gC (.int 24))))) [.val (netD many ps),.val (.int many),.val (.tup (ps.map pairD))]=.ok (false,[.val (netD many ps),.val (.int many),.val (.tup (ps.map pairD))]) :=
 orT_f (zCJ (b:=true) (tru_y (zBA (ds:=[.int many]) rfl (zJQ many)) rfl)) (zCJ (b:=true) (gB_ok (zMN (x:=.int 1) (y:=.int many) rfl rfl (blT hm1) (z:=.int 24) rfl (blT hm2))))
theorem zTC {many:Int} {ps:List (Int × Int)} (h:¬ (120:Int)<(ps.length:Int)):gOrT (gNotT (gTru (gInst "tuple" (gVar 2)))) (gB (g2 gtD (gN lenD [(gVar 2)]) (gC (.int 120)))) [.val (netD many ps),.val (.int many),.val (.tup (ps.map pairD))]=.ok (false,[.val (netD many ps),.val (.int many),.val (.tup (ps.map pairD))]) :=
 orT_f (zCJ (b:=true) (tru_y (zDO (d:=.tup (ps.map pairD)) rfl) rfl)) (gB_ok (g2_ok (gN_ok (args1 (d:=.tup (ps.map pairD)) rfl) (d:=.int (ps.length:Int)) (len_t (List.length_map _))) (y:=.int 120) rfl (blF h)))
end
theorem zJS {gi:GI} {k:Nat} {js:List Nat} {t:Tg} {ge:G} {E E1:Ev} {ds:List D} (P:Ev→Prop) (hi:gi E=.ok (ds,E1)) (h0:P (capE k js E1)) (hl:ds.length<10000)
  (hs:∀ d∈ds,∀ E,P E→∃ E1,gTg t d E=.ok E1∧∃ E3,ge E1=.ok (.bl true,E3)∧P E3)
  (hb:∀ Ec,P Ec→bck E1 Ec k js=E1):gComp gi k js t gYes ge E=.ok (.lst (ds.map fun _=>.bl true),E1):=by
 have:=zDN (t:=t) (tt:=gYes) (ge:=ge) (fun _=>[.bl true]) P hi h0 hl (fun d hd E hE=>by
  obtain ⟨E1,e1,E3,e3,p⟩:=hs d hd E hE
  exact ⟨E1,e1,true,E1,rfl,.inl ⟨rfl,_,_,e3,rfl,p⟩⟩) hb
 rw [this]
 congr 3
 clear this hi hl hs
 induction ds with
 | nil=>rfl
 | cons p ps ih=>simp only [List.map_cons,List.flatMap_cons,ih]; rfl
theorem zJT {α:Type} (ds:List α):allD [.lst (ds.map fun _=>.bl true)]=.ok (.bl true):=by
 have:toBls (ds.map fun _=>D.bl true)=some (ds.map fun _=>true):=by
  induction ds with
  | nil=>rfl
  | cons d ds ih=>simp [toBls,ih]
 simp [allD,this]
theorem cut1 {α:Type} (xs:List α):cutA xs (some 1) none=xs.drop 1:=by
 unfold cutA HT.sIx
 cases xs with
 | nil=>simp
 | cons x xs=>simp
theorem zPB {α:Type} {R:α→α→Prop}:∀ {xs:List α},xs.Pairwise R→∀ p∈xs.zip (xs.drop 1),R p.1 p.2
 | [],_,p,h=>by simp at h
 | [x],_,p,h=>by simp at h
 | x::y::xs,hp,p,h=>by
  simp only [List.drop_one,List.tail_cons,List.zip_cons_cons,List.mem_cons] at h
  rcases h with rfl | h
  ·exact (List.pairwise_cons.mp hp).1 y List.mem_cons_self
  ·exact zPB (List.pairwise_cons.mp hp).2 p (by simpa using h)
theorem zTD {many:Int} {ps:List (Int × Int)} (N:Net many ps):zCW [.val (netD many ps)]=.ok (false,.bl true,.non):=by
 have hl:=N.len
 have hm1:=N.m1
 have hm2:=N.m2
 obtain ⟨E0,hE0⟩:∃ E0:Ev,E0=[.val (netD many ps),.val (.int many),.val (.tup (ps.map pairD))]:=⟨_,rfl⟩
 have h1:gComp (gAnyI (gVar 2)) 1 [1] (.nm 0) gYes (gCall zCQ [(gVar 1),(gVar 0)]) E0=.ok (.lst ((ps.map pairD).map fun _=>.bl true),E0):=by
  refine zJS (fun E=>∃ x,E=[x,.val (.int many)]) (by rw [hE0]; rfl) ⟨.no,by rw [hE0]; rfl⟩ (by rw [List.length_map]; omega) (fun d hd E hE=>?_) fun Ec ⟨x,e⟩=>by rw [hE0,e]; rfl
  obtain ⟨p,hp,rfl⟩:=List.mem_map.mp hd
  obtain ⟨x,rfl⟩:=hE
  exact ⟨_,rfl,_,zBA (ds:=[.int many,pairD p]) rfl (zRB (N.rg p hp)),_,rfl⟩
 have h2:gComp (gZip (gVar 2) (zHI (gVar 2) (some (gC (.int 1))) none)) 2 [] (.tp [(.nm 0),(.nm 1)]) gYes (g2 ltD (gVar 0) (gVar 1)) E0=.ok (.lst ((zipL (ps.map pairD) ((ps.drop 1).map pairD)).map fun _=>.bl true),E0):=by
  refine zJS (fun E=>E.length=2) ?_ rfl ?_ (fun d hd E hE=>?_) fun Ec _=>zGK Ec 2 0 E0
  ·rw [hE0,List.map_drop,← cut1]
   rfl
  ·simp only [zipL,List.length_map,List.length_zip,List.length_drop]; omega
  ·obtain ⟨q,hq,rfl⟩:=List.mem_map.mp hd
   obtain ⟨x,y,rfl⟩:=zMO hE
   rw [List.zip_map] at hq
   obtain ⟨⟨a,b⟩,hab,rfl⟩:=List.mem_map.mp hq
   have:=zPB N.pw _ hab
   refine ⟨_,rfl,_,zAG (a:=(pairD a,_)) rfl (zAG (a:=(pairD b,_)) rfl (zAG (a:=.bl true) ?_ rfl)),rfl⟩
   simp only [ltP,decide_eq_true_eq] at this
   obtain ⟨a1,a2⟩:=a
   obtain ⟨b1,b2⟩:=b
   simp only [pairD,ltD,zA1,Option.map,HT.lexLt]
   simp only at this
   rcases this with h | ⟨h,h'⟩
   ·simp [h]; omega
   ·subst h; simp [h']; omega
 have t1:gOrT (gNotT (gTru (gInst "tuple" (gVar 0)))) (gB (g2 neD (gN lenD [(gVar 0)]) (gC (.int 2)))) [.val (netD many ps),.no,.no]=.ok (false,[.val (netD many ps),.no,.no]) :=
  orT_f (zCJ (b:=true) (tru_y (zDO (d:=netD many ps) rfl) rfl)) (gB_ok (g2_ok (gN_ok (args1 (d:=netD many ps) rfl) rfl) (y:=.int 2) rfl (zES 2 2)))
 have t2:gOrT (gNotT (gTru (gCall zBD [(gVar 1)]))) (gNotT (gB (zDT leD leD (gC (.int 1)) (gVar 1) (gC (.int 24))))) E0=.ok (false,E0):=by
  rw [hE0]
  exact zTB hm1 hm2
 have t3:gOrT (gNotT (gTru (gInst "tuple" (gVar 2)))) (gB (g2 gtD (gN lenD [(gVar 2)]) (gC (.int 120)))) E0=.ok (false,E0):=by
  rw [hE0]
  exact zTC (by omega)
 refine fn_rt (zAI (if_f t1 rfl) (zAI (E1:=E0) (zA7 (d:=netD many ps) rfl (by rw [hE0]; rfl)) (zAI (if_f t2 rfl) (zAI (if_f t3 rfl) (zAI (if_f (zCJ (b:=true) (tru_y (gN_ok (args1 h1) (zJT _)) rfl)) rfl) (zBQ (gN_ok (args1 h2) (zJT _)))))))) rfl
end My
namespace My
open PySem L2
noncomputable def optD:Option Int→D
 | none=>.non
 | some i=>.int i
inductive Rc (ps:List (Int × Int)) (cl:List Int) (g:Int):Int→Prop
 | refl:g∉cl→Rc ps cl g g
 | step {x y:Int}:Rc ps cl g x→(x,y)∈ps→y∉cl→Rc ps cl g y
noncomputable def vis (aw:List (Option Int)) (x:Int):Prop:=0≤x∧∃ v,aw[x.toNat]?=some (some v)
noncomputable def cntN:List (Option Int)→Nat
 | []=>0
 | none::r=>cntN r+1
 | some _::r=>cntN r
theorem zJU:∀ {l:List (Option Int)} {i:Nat} {v:Int},l[i]?=some none→cntN (l.set i (some v))+1=cntN l
 | [],_,_,h=>by simp at h
 | o::l,0,v,h=>by simp at h; subst h; rfl
 | o::l,i+1,v,h=>by
  have:=zJU (l:=l) (i:=i) (v:=v) (by simpa using h)
  cases o <;> simp [cntN] <;> omega
theorem zGL:∀ l:List (Option Int),cntN l≤l.length
 | []=>Nat.le_refl _
 | none::r=>by have:=zGL r; simp [cntN]; omega
 | some _::r=>by have:=zGL r; simp [cntN]; omega
theorem zC5 {aw:List (Option Int)} {j v x:Int} (h0:0≤j) (h1:j.toNat<aw.length):vis (aw.set j.toNat (some v)) x↔vis aw x∨x=j:=by
 unfold vis
 by_cases e:x=j
 ·subst e
  simp only [or_true,iff_true]
  exact ⟨h0,v,by rw [List.getElem?_set_self h1]⟩
 ·constructor
  ·rintro ⟨a,w,b⟩
   rw [List.getElem?_set_ne (by omega)] at b
   exact .inl ⟨a,w,b⟩
  ·rintro (⟨a,w,b⟩ | h)
   ·exact ⟨a,w,by rw [List.getElem?_set_ne (by omega)]; exact b⟩
   ·exact absurd h e
theorem mem_succs {ps:List (Int × Int)} {j:Nat} {y:Int}:y∈succs ps j↔((j:Int),y)∈ps:=by
 unfold succs
 constructor
 ·intro h
  obtain ⟨p,hp,rfl⟩:=List.mem_map.mp h
  obtain ⟨hp,e⟩:=List.mem_filter.mp hp
  have:=of_decide_eq_true e
  rw [← this]; exact hp
 ·intro h
  exact List.mem_map.mpr ⟨_,List.mem_filter.mpr ⟨h,decide_eq_true rfl⟩,rfl⟩
noncomputable def shutD (many:Int) (cl:List Int):D:=.lst ((List.range many.toNat).map fun (j:Nat)=>.bl (decide ((j:Int)∈cl)))
noncomputable def env (many:Int) (ps:List (Int × Int)) (cl:List Int) (start:Int) (aw:List (Option Int)) (row:List Int) (u8 u9 u10:Sl):Ev :=
 [.val (netD many ps),.val (.int start),.val (.tup (cl.map D.int)),.val (.int many),.own false (.lst (aw.map optD)),.val (rowsD many ps),.val (shutD many cl),.val (.lst (row.map D.int)),u8,u9,u10]
noncomputable abbrev latD (later:List Int):Sl:=.own false (.lst (later.map D.int))
structure Rg (many:Int) (ps:List (Int × Int)):Prop where
 m1:0≤many
 m2:many≤100
 len:ps.length≤1000
 rg:∀ p∈ps,0≤p.1∧p.1<many∧0≤p.2∧p.2<many
section
variable {many:Int} {ps:List (Int × Int)} {cl:List Int} {start:Int}
noncomputable abbrev inB:GS:=gIfS (gBorT [4] (gAndT (gB (g2 isND (g2 ixD (gVar 4) (gVar 10)) (gC .non))) (gNotT (gTru (g2 ixD (gVar 6) (gVar 10))))))
 (gSeq (zAO 4 (gVar 10) (gBor [4] (g2 addD (g2 ixD (gVar 4) (gVar 9)) (gC (.int 1)))))
 (gDrop (gMeth 8 appD [(gVar 10)])))
 gNx
theorem ix_aw {aw:List (Option Int)} {x:Int} {o:Option Int} (h0:0≤x) (h:aw[x.toNat]?=some o):ixD (.lst (aw.map optD)) (.int x)=.ok (optD o):=by
 have:=zJN (xs:=aw.map optD) (x:=optD o) h0 (by rw [List.getElem?_map,h]; rfl)
 exact ix_l this
theorem zRC {x:Int} (h0:0≤x) (h:x<many):ixD (shutD many cl) (.int x)=.ok (.bl (decide (x∈cl))):=by
 have:=zJN (xs:=(List.range many.toNat).map fun (j:Nat)=>D.bl (decide ((j:Int)∈cl))) (x:=.bl (decide (x∈cl))) h0 (by
  rw [List.getElem?_map,List.getElem?_range (by omega),Option.map_some,show ((x.toNat:Nat):Int)=x by omega])
 exact ix_l this
theorem zRD {x:Int} (h0:0≤x) (h:x<many):ixD (rowsD many ps) (.int x)=.ok (.lst ((succs ps x.toNat).map D.int)):=by
 have:=zJN (xs:=(List.range many.toNat).map fun (j:Nat)=>D.lst ((succs ps j).map D.int)) (x:=.lst ((succs ps x.toNat).map D.int)) h0 (by
  rw [List.getElem?_map,List.getElem?_range (by omega),Option.map_some])
 exact ix_l this
theorem zRE {aw:List (Option Int)} {row later:List Int} {one other v:Int} (hl:aw.length=many.toNat) (h1:0≤one) (hv:aw[one.toNat]?=some (some v)) (h2:0≤other) (h3:other<many) (hll:later.length<10000) :
  ∃ aw' later',inB (env many ps cl start aw row (latD later) (.val (.int one)) (.val (.int other)))=.ok (.nx (env many ps cl start aw' row (latD later') (.val (.int one)) (.val (.int other)))) ∧
   ((aw[other.toNat]?=some none∧other∉cl∧aw'=aw.set other.toNat (some (v+1))∧later'=later++[other])∨(aw'=aw∧later'=later∧(other∉cl→vis aw other))):=by
 obtain ⟨o,ho⟩:∃ o,aw[other.toNat]?=some o:=⟨_,List.getElem?_eq_getElem (by omega)⟩
 have t1:∀ b,(match o with | none=>true | _=>false)=b→gB (g2 isND (g2 ixD (gVar 4) (gVar 10)) (gC .non)) (hide [4] (env many ps cl start aw row (latD later) (.val (.int one)) (.val (.int other))))=.ok (b,hide [4] (env many ps cl start aw row (latD later) (.val (.int one)) (.val (.int other)))):=fun b hb =>
  gB_ok (g2_ok (g2_ok (x:=.lst (aw.map optD)) (y:=.int other) rfl rfl (ix_aw h2 ho)) (y:=.non) rfl (by cases o <;> subst hb <;> rfl))
 have t2:gNotT (gTru (g2 ixD (gVar 6) (gVar 10))) (hide [4] (env many ps cl start aw row (latD later) (.val (.int one)) (.val (.int other))))=.ok (!decide (other∈cl),hide [4] (env many ps cl start aw row (latD later) (.val (.int one)) (.val (.int other)))) :=
  zCJ (tru_y (g2_ok (x:=shutD many cl) (y:=.int other) rfl rfl (zRC h2 h3)) rfl)
 cases o with
 | some w =>
  refine ⟨aw,later,if_f (zBL (zML (t1 false rfl))) rfl,.inr ⟨rfl,rfl,fun _=>⟨h2,w,ho⟩⟩⟩
 | none =>
  by_cases hc:other∈cl
  ·rw [decide_eq_true hc] at t2
   exact ⟨aw,later,if_f (zBL (zFO (t1 true rfl) t2)) rfl,.inr ⟨rfl,rfl,fun z=>absurd hc z⟩⟩
  ·rw [decide_eq_false hc] at t2
   refine ⟨_,_,if_t (zBL (zFO (t1 true rfl) t2)) (zAI (E1:=env many ps cl start (aw.set other.toNat (some (v+1))) row (latD later) (.val (.int one)) (.val (.int other))) ?_ ?_),.inl ⟨ho,hc,rfl,rfl⟩⟩
   ·have hb:gBor [4] (g2 addD (g2 ixD (gVar 4) (gVar 9)) (gC (.int 1))) (env many ps cl start aw row (latD later) (.val (.int one)) (.val (.int other)))=.ok (.int (v+1),env many ps cl start aw row (latD later) (.val (.int one)) (.val (.int other))) :=
     zCZ (g2_ok (g2_ok (x:=.lst (aw.map optD)) (y:=.int one) rfl rfl (ix_aw h1 hv)) (y:=.int 1) rfl rfl) rfl
    have:=zA5 (i:=4) (gk:=gVar 10) (t:=false) (d:=.lst (aw.map optD)) (k:=.int other) (d':=.lst ((aw.set other.toNat (some (v+1))).map optD)) rfl hb rfl rfl (by
     rw [set_l (zO7 h2 (by rw [List.length_map]; omega)),List.map_set]; rfl)
    exact this
   ·have:=zEV (i:=8) (f:=appD) (gs:=[gVar 10]) (E:=env many ps cl start (aw.set other.toNat (some (v+1))) row (latD later) (.val (.int one)) (.val (.int other))) (xs:=later.map D.int) (ds:=[.int other]) (x:=.non) (ds':=(later++[other]).map D.int) rfl rfl rfl (by
     simp only [appD,List.length_map]
     rw [few_y hll]; simp)
    exact zIT this
structure Bf (ps:List (Int × Int)) (cl:List Int) (start:Int) (n:Nat) (aw0 aw:List (Option Int)) (later:List Int):Prop where
 len:aw.length=n
 mono:∀ x,vis aw0 x→vis aw x
 new:∀ x,vis aw x→vis aw0 x∨x∈later
 lat:∀ x∈later,vis aw x
 rc:∀ x,vis aw x→Rc ps cl start x
 cnt:cntN aw+later.length=cntN aw0
theorem Bf.step {aw0 aw:List (Option Int)} {later:List Int} {one other v:Int} {n:Nat} (B:Bf ps cl start n aw0 aw later) (h1:vis aw one) (he:(one,other)∈ps) (h2:0≤other) (h3:other.toNat<n) (h4:aw[other.toNat]?=some none) (h5:other∉cl) :
  Bf ps cl start n aw0 (aw.set other.toNat (some (v+1))) (later++[other]) where
 len:=by rw [List.length_set]; exact B.len
 mono:=fun x h=>(zC5 h2 (by rw [B.len]; exact h3)).mpr (.inl (B.mono x h))
 new:=fun x h=>by
  rcases (zC5 h2 (by rw [B.len]; exact h3)).mp h with h | rfl
  ·rcases B.new x h with h | h
   ·exact .inl h
   ·exact .inr (List.mem_append_left _ h)
  ·exact .inr (by simp)
 lat:=fun x h=>by
  refine (zC5 h2 (by rw [B.len]; exact h3)).mpr ?_
  rcases List.mem_append.mp h with h | h
  ·exact .inl (B.lat x h)
  ·exact .inr (List.mem_singleton.mp h)
 rc:=fun x h=>by
  rcases (zC5 h2 (by rw [B.len]; exact h3)).mp h with h | rfl
  ·exact B.rc x h
  ·exact .step (B.rc one h1) he h5
 cnt:=by
  have:=zJU (v:=v+1) h4
  have:=B.cnt
  rw [List.length_append,List.length_singleton]; omega
noncomputable abbrev outB:GS:=gFor (gAnyI (g2 ixD (gVar 5) (gVar 9))) (.nm 10) inB
theorem zOG (R:Rg many ps) {aw0 aw1:List (Option Int)} {row later1:List Int} {one:Int} {u10:Sl} (B1:Bf ps cl start many.toNat aw0 aw1 later1) (hv:vis aw1 one) (ho:one<many) (hc0:cntN aw0≤100) :
  ∃ aw later u,outB (env many ps cl start aw1 row (latD later1) (.val (.int one)) u10)=.ok (.nx (env many ps cl start aw row (latD later) (.val (.int one)) u))∧Bf ps cl start many.toNat aw0 aw later∧(∀ x,vis aw1 x→vis aw x)∧∀ y,(one,y)∈ps→y∉cl→vis aw y:=by
 have h0:=hv.1
 obtain ⟨E',e,aw,later,u,rfl,B,mo,ex⟩:=zCR (gi:=gAnyI (g2 ixD (gVar 5) (gVar 9))) (t:=.nm 10) (g:=inB) (E:=env many ps cl start aw1 row (latD later1) (.val (.int one)) u10) (ds:=(succs ps one.toNat).map D.int)
  (fun i E=>∃ aw later u,E=env many ps cl start aw row (latD later) (.val (.int one)) u∧Bf ps cl start many.toNat aw0 aw later∧(∀ x,vis aw1 x→vis aw x)∧∀ y∈(succs ps one.toNat).take i,y∉cl→vis aw y)
  (zGJ (g2_ok (x:=rowsD many ps) (y:=.int one) rfl rfl (zRD h0 ho))) ⟨aw1,later1,u10,rfl,B1,fun _ h=>h,fun y h=>by simp at h⟩
  (fun i d E hd ⟨aw,later,u,hE,B,mo,ex⟩=>by
   subst hE
   rw [List.getElem?_map] at hd
   obtain ⟨y,hy,rfl⟩:=Option.map_eq_some_iff.mp hd
   have hyp:(one,y)∈ps:=by
    have:=mem_succs.mp (List.mem_of_getElem? hy)
    rwa [show ((one.toNat:Nat):Int)=one by omega] at this
   obtain ⟨_,_,y0,y1⟩:=R.rg _ hyp
   simp only at y0 y1
   obtain ⟨w,hw⟩:=(mo one hv).2
   have hcn:=B.cnt
   obtain ⟨aw',later',e,h⟩:=zRE (ps:=ps) (cl:=cl) (start:=start) (row:=row) (later:=later) B.len h0 hw y0 y1 (by omega)
   refine ⟨_,rfl,_,e,aw',later',_,rfl,?_⟩
   have htk:(succs ps one.toNat).take (i+1)=(succs ps one.toNat).take i++[y]:=by
    obtain ⟨hi,e⟩:=List.getElem?_eq_some_iff.mp hy
    rw [List.take_succ_eq_append_getElem hi,e]
   rcases h with ⟨a,b,rfl,rfl⟩ | ⟨rfl,rfl,hz⟩
   ·have B':=B.step (v:=w) (mo one hv) hyp y0 (by omega) a b
    refine ⟨B',fun x hx=>(zC5 y0 (by rw [B.len]; omega)).mpr (.inl (mo x hx)),fun z hz hzc=>?_⟩
    rw [htk] at hz
    refine (zC5 y0 (by rw [B.len]; omega)).mpr ?_
    rcases List.mem_append.mp hz with h | h
    ·exact .inl (ex z h hzc)
    ·exact .inr (List.mem_singleton.mp h)
   ·refine ⟨B,mo,fun z h hzc=>?_⟩
    rw [htk] at h
    rcases List.mem_append.mp h with h | h
    ·exact ex z h hzc
    ·rw [List.mem_singleton.mp h] at hzc ⊢; exact hz hzc)
 refine ⟨aw,later,u,e,B,mo,fun y hy hyc=>ex y ?_ hyc⟩
 rw [List.length_map,List.take_length]
 exact mem_succs.mpr (by rwa [show ((one.toNat:Nat):Int)=one by omega])
end
end My
namespace My
open PySem L2
section
variable {many:Int} {ps:List (Int × Int)} {cl:List Int} {start:Int}
theorem zTE {aw:List (Option Int)} {x:Int} {n:Nat} (hl:aw.length=n) (h:vis aw x):0≤x∧x<n:=by
 obtain ⟨a,v,b⟩:=h
 have:=(List.getElem?_eq_some_iff.mp b).1
 exact ⟨a,by omega⟩
theorem zOH (R:Rg many ps) {aw0:List (Option Int)} {row:List Int} {u9 u10:Sl} (hl:aw0.length=many.toNat) (hrc:∀ x,vis aw0 x→Rc ps cl start x) (hrow:∀ x∈row,vis aw0 x) :
  ∃ aw later u v,gFor (gAnyI (gVar 7)) (.nm 9) outB (env many ps cl start aw0 row (latD []) u9 u10)=.ok (.nx (env many ps cl start aw row (latD later) u v))∧Bf ps cl start many.toNat aw0 aw later∧∀ x∈row,∀ y,(x,y)∈ps→y∉cl→vis aw y:=by
 have hc0:cntN aw0≤100:=by have:=zGL aw0; have:=R.m2; omega
 obtain ⟨E',e,aw,later,u,v,rfl,B,ex⟩:=zCR (gi:=gAnyI (gVar 7)) (t:=.nm 9) (g:=outB) (E:=env many ps cl start aw0 row (latD []) u9 u10) (ds:=row.map D.int)
  (fun i E=>∃ aw later u v,E=env many ps cl start aw row (latD later) u v∧Bf ps cl start many.toNat aw0 aw later∧∀ x∈row.take i,∀ y,(x,y)∈ps→y∉cl→vis aw y)
  (zGJ rfl) ⟨aw0,[],u9,u10,rfl,⟨hl,fun _ h=>h,fun _ h=>.inl h,fun _ h=>by simp at h,hrc,rfl⟩,fun y h=>by simp at h⟩
  (fun i d E hd ⟨aw,later,u,v,hE,B,ex⟩=>by
   subst hE
   rw [List.getElem?_map] at hd
   obtain ⟨x,hx,rfl⟩:=Option.map_eq_some_iff.mp hd
   have hvx:=B.mono x (hrow x (List.mem_of_getElem? hx))
   have hlt:=zTE B.len hvx
   obtain ⟨aw',later',u',e,B',mo,ex'⟩:=zOG R (row:=row) (u10:=v) B hvx (by have:=R.m1; omega) hc0
   refine ⟨_,rfl,_,e,aw',later',_,u',rfl,B',fun z hz y hy hyc=>?_⟩
   obtain ⟨hi,e⟩:=List.getElem?_eq_some_iff.mp hx
   rw [List.take_succ_eq_append_getElem hi,e] at hz
   rcases List.mem_append.mp hz with h | h
   ·exact mo y (ex z h y hy hyc)
   ·rw [List.mem_singleton.mp h] at hy; exact ex' y hy hyc)
 rw [List.length_map,List.take_length] at ex
 exact ⟨aw,later,u,v,e,B,ex⟩
noncomputable abbrev whB:GS:=(gSeq (gSetF 8 (gLst []))
 (gSeq (gFor (gAnyI (gVar 7)) (.nm 9) outB)
 (gAsg (.nm 7) (gVar 8))))
theorem zOI (R:Rg many ps) {aw0:List (Option Int)} (hl:aw0.length=many.toNat) (hv:∀ x,vis aw0 x↔x=start) (hs:start∉cl) :
  ∃ aw u8 u9 u10,gWh (gTru (gVar 7)) whB 100000 (env many ps cl start aw0 [start] .no .no .no)=.ok (.nx (env many ps cl start aw [] u8 u9 u10))∧aw.length=many.toNat∧∀ x,vis aw x↔Rc ps cl start x:=by
 have hc0:cntN aw0≤100:=by have:=zGL aw0; have:=R.m2; omega
 obtain ⟨E',e,aw,u8,u9,u10,rfl,h1,h2⟩:=zJL (t:=gTru (gVar 7)) (g:=whB)
  (fun n E=>∃ aw row u8 u9 u10,E=env many ps cl start aw row u8 u9 u10∧aw.length=many.toNat∧(∀ x,vis aw x→Rc ps cl start x)∧vis aw start∧(∀ x∈row,vis aw x)∧(∀ x,vis aw x→x∈row∨∀ y,(x,y)∈ps→y∉cl→vis aw y)∧n=cntN aw+(if row=[] then 0 else 1))
  (fun E=>∃ aw u8 u9 u10,E=env many ps cl start aw [] u8 u9 u10∧aw.length=many.toNat∧∀ x,vis aw x↔Rc ps cl start x)
  (fun n E hP=>by
   obtain ⟨aw,row,u8,u9,u10,hE,hl,hrc,hst,hrow,hex,hn⟩:=hP
   subst hE
   cases row with
   | nil =>
    refine .inl ⟨_,tru_y (d:=.lst []) rfl rfl,aw,u8,u9,u10,rfl,hl,fun x=>⟨hrc x,fun h=>?_⟩⟩
    induction h with
    | refl _=>exact hst
    | step _ he hc ih =>
     rcases hex _ ih with h | h
     ·simp at h
     ·exact h _ he hc
   | cons r row =>
    obtain ⟨aw',later,u,v,e,B,ex⟩:=zOH R (row:=r::row) (u9:=u9) (u10:=u10) hl hrc hrow
    refine .inr ⟨_,env many ps cl start aw' later (.val (.lst (later.map D.int))) u v,cntN aw'+(if later=[] then 0 else 1),tru_y (d:=.lst ((r::row).map D.int)) rfl rfl,zAI (zCI (d:=.lst []) rfl) (zAI e (zA7 (d:=.lst (later.map D.int)) rfl rfl)),?_,aw',later,_,_,_,rfl,B.len,B.rc,B.mono _ hst,B.lat,fun x hx=>?_,rfl⟩
    ·have:=B.cnt
     rw [show (if (r::row:List Int)=[] then 0 else 1)=1 from if_neg (by simp)] at hn
     cases later with
     | nil=>simp at this ⊢; omega
     | cons a l=>simp at this ⊢; omega
    ·rcases B.new x hx with h | h
     ·refine .inr ?_
      rcases hex x h with h | h
      ·exact ex x h
      ·exact fun y hy hc=>B.mono y (h y hy hc)
     ·exact .inl h) 100000 (cntN aw0+1) (env many ps cl start aw0 [start] .no .no .no) (by omega)
  ⟨aw0,[start],_,_,_,rfl,hl,fun x h=>by rw [(hv x).mp h]; exact .refl hs,(hv _).mpr rfl,fun x h=>by rw [List.mem_singleton.mp h]; exact (hv _).mpr rfl,fun x h=>.inl (by rw [(hv x).mp h]; simp),rfl⟩
 exact ⟨aw,u8,u9,u10,e,h1,h2⟩
theorem zRF (R:Rg many ps):zAS [.val (netD many ps)]=.ok (false,rowsD many ps,.non):=by
 exact nx_ok ⟨rfl,R.m1,R.m2,R.len,fun p hp=>⟨(R.rg p hp).1,(R.rg p hp).2.1⟩⟩
theorem zRG (R:Rg many ps) {E:Ev} (h3:E[3]?=some (.val (.int many))) (h2:E[2]?=some (.val (.tup (cl.map D.int)))) (hb:∀ Ec,bck E Ec 1 [2]=E):gComp (gRng1 (gVar 3)) 1 [2] (.nm 0) gYes (g2 inD (gVar 0) (gVar 1)) E=.ok (shutD many cl,E):=by
 have hm1:=R.m1
 have hm2:=R.m2
 have hg:gVar 3 E=.ok (.int many,E):=by simp [gVar,h3]
 have:=zDN (k:=1) (js:=[2]) (t:=.nm 0) (tt:=gYes) (ge:=g2 inD (gVar 0) (gVar 1)) (fun d=>match d with | .int j=>[.bl (decide (j∈cl))] | _=>[]) (fun E=>∃ x,E=[x,.val (.tup (cl.map D.int))]) (zEU hg ⟨by omega,by omega⟩) ⟨.no,by simp [capE,h2]⟩ (by simp [rngL]; omega) (fun d hd E ⟨x,hE⟩=>by
  subst hE
  obtain ⟨j,_,rfl⟩:=List.mem_map.mp hd
  exact ⟨_,rfl,true,_,rfl,.inl ⟨rfl,_,_,g2_ok (x:=.int (0+(j:Int))) (y:=.tup (cl.map D.int)) rfl rfl (zIS _ _),rfl,_,rfl⟩⟩) fun Ec _=>hb Ec
 rw [this]
 congr 3
 simp only [shutD,rngL]
 clear this
 rw [List.flatMap_map]
 generalize List.range many.toNat=l
 induction l with
 | nil=>rfl
 | cons p ps ih=>simp only [List.map_cons,List.flatMap_cons]; rw [ih]; simp
theorem zRH (R:Rg many ps) (h0:0≤start) (h1:start<many):∃ aw,zB4 [.val (netD many ps),.val (.int start),.val (.tup (cl.map D.int))]=.ok (false,.lst (aw.map optD),.non)∧aw.length=many.toNat∧∀ x,vis aw x↔Rc ps cl start x:=by
 have hm1:=R.m1
 have hm2:=R.m2
 obtain ⟨aw1,haw1⟩:∃ aw1:List (Option Int),aw1=List.replicate many.toNat none:=⟨_,rfl⟩
 have hrep:repD (.lst [.non]) (.int many)=.ok (.lst (aw1.map optD)):=by
  have e:(List.replicate many.toNat [D.non]).flatten=aw1.map optD:=by
   rw [haw1,List.map_replicate]
   generalize many.toNat=n
   induction n with
   | zero=>rfl
   | succ n ih=>rw [List.replicate_succ,List.replicate_succ,List.flatten_cons,ih]; rfl
  simp only [repD,L2.guard]
  rw [if_pos ⟨by omega,by omega,by simp; omega⟩,e]
 have hv1:∀ x,¬ vis aw1 x:=by
  rintro x ⟨_,v,b⟩
  rw [haw1,List.getElem?_replicate] at b
  split at b <;> simp at b
 obtain ⟨E3,hE3⟩:∃ E3:Ev,E3=[.val (netD many ps),.val (.int start),.val (.tup (cl.map D.int)),.val (.int many),.own false (.lst (aw1.map optD)),.no,.no,.no,.no,.no,.no]:=⟨_,rfl⟩
 have tin:gB (g2 inD (gVar 1) (gVar 2)) E3=.ok (decide (start∈cl),E3):=by
  rw [hE3]; exact gB_ok (g2_ok (x:=.int start) (y:=.tup (cl.map D.int)) rfl rfl (zIS _ _))
 have s1:∀ {g:GS} {r:Out Fl},g E3=r→(gSeq (gAsg (.nm 3) (g2 ixD (gVar 0) (gC (.int 0)))) (gSeq (gSetF 4 (g2 repD (gLst [(gC .non)]) (gVar 3))) g)) ([.val (netD many ps),.val (.int start),.val (.tup (cl.map D.int))]++List.replicate 8 .no)=r:=fun h =>
  zAI (zA7 (d:=.int many) (g2_ok (x:=netD many ps) (y:=.int 0) rfl rfl rfl) rfl) (zAI (zCI (g2_ok (x:=.lst [.non]) (y:=.int many) rfl rfl hrep)) (by rw [hE3] at h; exact h))
 by_cases hs:start∈cl
 ·rw [decide_eq_true hs] at tin
  refine ⟨aw1,fn_rt (s1 (zJK (b:=false) (d:=.lst (aw1.map optD)) (if_t tin (zBQ (by rw [hE3]; rfl))))) rfl,by rw [haw1]; simp,fun x=>⟨fun h=>absurd h (hv1 x),fun h=>?_⟩⟩
  induction h with
  | refl h=>exact absurd hs h
  | step _ _ _ ih=>exact absurd ih (hv1 _)
 ·rw [decide_eq_false hs] at tin
  have hset:∀ x,vis (aw1.set start.toNat (some 0)) x↔x=start:=fun x=>by
   rw [zC5 h0 (by rw [haw1]; simp; omega)]
   exact ⟨fun h=>h.resolve_left (hv1 x),.inr⟩
  obtain ⟨aw,u8,u9,u10,ew,hl,hr⟩:=zOI (cl:=cl) (start:=start) R (aw0:=aw1.set start.toNat (some 0)) (by rw [haw1]; simp) hset hs
  refine ⟨aw,fn_rt (s1 (zAI (if_f tin rfl) (zAI (E1:=E3.set 5 (.val (rowsD many ps))) (zA7 (zBA (ds:=[netD many ps]) (by rw [hE3]; rfl) (zRF R)) rfl) (zAI (E1:=(E3.set 5 (.val (rowsD many ps))).set 6 (.val (shutD many cl))) (zA7 (zRG R (by rw [hE3]; rfl) (by rw [hE3]; rfl) (fun Ec=>by rw [hE3]; rfl)) rfl)
   (zAI (E1:=(((E3.set 5 (.val (rowsD many ps))).set 6 (.val (shutD many cl))).set 4 (.own false (.lst ((aw1.set start.toNat (some 0)).map optD))))) ?_ (zAI (E1:=env many ps cl start (aw1.set start.toNat (some 0)) [start] .no .no .no) (zA7 (d:=.lst [.int start]) (by rw [hE3]; rfl) (by first | rfl | (rw [hE3]; rfl))) (zAI ew (zBQ (d:=.lst (aw.map optD)) rfl)))))))) rfl,hl,hr⟩
  rw [hE3]
  exact zA5 (i:=4) (gk:=gVar 1) (gv:=gC (.int 0)) (t:=false) (d:=.lst (aw1.map optD)) (v:=.int 0) (k:=.int start) (d':=.lst ((aw1.set start.toNat (some 0)).map optD)) rfl rfl rfl rfl (by
     rw [set_l (zO7 h0 (by rw [List.length_map,haw1]; simp; omega)),List.map_set]; rfl)
end
end My
namespace My
open PySem L2
noncomputable def visL:List (Option Int)→Nat→List Int
 | [],_=>[]
 | none::r,k=>visL r (k+1)
 | some _::r,k=>(k:Int)::visL r (k+1)
theorem mem_visL:∀ {aw:List (Option Int)} {k:Nat} {x:Int},x∈visL aw k↔(k:Int)≤x∧∃ v,aw[x.toNat - k]?=some (some v)
 | [],k,x=>by simp [visL]
 | none::r,k,x=>by
  rw [visL,mem_visL]
  constructor
  ·rintro ⟨a,v,b⟩
   refine ⟨by omega,v,?_⟩
   rw [show x.toNat - k=(x.toNat - (k+1))+1 by omega,List.getElem?_cons_succ]; exact b
  ·rintro ⟨a,v,b⟩
   by_cases e:x=k
   ·subst e; simp at b
   ·refine ⟨by omega,v,?_⟩
    rw [show x.toNat - k=(x.toNat - (k+1))+1 by omega,List.getElem?_cons_succ] at b; exact b
 | some w::r,k,x=>by
  rw [visL,List.mem_cons,mem_visL]
  constructor
  ·rintro (rfl | ⟨a,v,b⟩)
   ·exact ⟨Int.le_refl _,w,by simp⟩
   ·refine ⟨by omega,v,?_⟩
    rw [show x.toNat - k=(x.toNat - (k+1))+1 by omega,List.getElem?_cons_succ]; exact b
  ·rintro ⟨a,v,b⟩
   by_cases e:x=k
   ·exact .inl e
   ·refine .inr ⟨by omega,v,?_⟩
    rw [show x.toNat - k=(x.toNat - (k+1))+1 by omega,List.getElem?_cons_succ] at b; exact b
theorem zIV:∀ (aw:List (Option Int)) (k:Nat),(visL aw k).Pairwise (· < ·)
 | [],_=>.nil
 | none::r,k=>zIV r (k+1)
 | some _::r,k=>List.pairwise_cons.mpr ⟨fun x h=>by have:=(mem_visL.mp h).1; omega,zIV r (k+1)⟩
noncomputable def keepF (d:D):List D:=match d with
 | .tup [_,.non]=>[]
 | .tup [i,_]=>[i]
 | _=>[]
theorem zGM:∀ (aw:List (Option Int)) (k:Nat),(((aw.map optD).zipIdx k).map fun p=>D.tup [.int (p.2:Int),p.1]).flatMap keepF=(visL aw k).map D.int
 | [],_=>rfl
 | none::r,k=>by simp only [List.map_cons,List.zipIdx_cons,List.flatMap_cons,zGM r (k+1)]; rfl
 | some _::r,k=>by simp only [List.map_cons,List.zipIdx_cons,List.flatMap_cons,zGM r (k+1)]; rfl
section
variable {many:Int} {ps:List (Int × Int)} {cl:List Int} {start:Int}
theorem zRI (R:Rg many ps) (h0:0≤start) (h1:start<many):∃ xs:List Int,zBM [.val (netD many ps),.val (.int start),.val (.tup (cl.map D.int))]=.ok (false,.tup (xs.map D.int),.non)∧xs.Pairwise (· < ·)∧∀ x,x∈xs↔Rc ps cl start x:=by
 obtain ⟨aw,e,hl,hr⟩:=zRH (cl:=cl) R h0 h1
 have hm2:=R.m2
 refine ⟨visL aw 0,?_,zIV aw 0,fun x=>?_⟩
 ·have hc:=zDN (gi:=zME (gVar 3)) (k:=2) (js:=[]) (t:=.tp [.nm 0,.nm 1]) (tt:=gB (g2 notND (gVar 1) (gC .non))) (ge:=gVar 0) (E:=[.val (netD many ps),.val (.int start),.val (.tup (cl.map D.int)),.val (.lst (aw.map optD))]) (E1:=[.val (netD many ps),.val (.int start),.val (.tup (cl.map D.int)),.val (.lst (aw.map optD))]) (ds:=enumL (aw.map optD)) keepF (fun E=>E.length=2) rfl rfl (by simp [enumL]; omega) (fun d hd E hE=>by
   obtain ⟨⟨o,j⟩,ho,rfl⟩:=List.mem_map.mp hd
   obtain ⟨x,y,rfl⟩:=zMO hE
   have:∃ w,optD w=o:=by
    have:=List.mem_zipIdx ho
    obtain ⟨w,_,hw⟩:=List.mem_map.mp (List.mem_of_getElem (this.2.2.symm))
    exact ⟨w,hw⟩
   obtain ⟨w,rfl⟩:=this
   cases w with
   | none=>exact ⟨_,rfl,false,_,rfl,.inr ⟨rfl,rfl,rfl⟩⟩
   | some w=>exact ⟨_,rfl,true,_,rfl,.inl ⟨rfl,_,_,rfl,rfl,rfl⟩⟩) fun Ec _=>zGK Ec 2 0 _
  have hf:(enumL (aw.map optD)).flatMap keepF=(visL aw 0).map D.int:=zGM aw 0
  rw [hf] at hc
  exact fn_rt (zAI (zA7 (zBA (ds:=[netD many ps,.int start,.tup (cl.map D.int)]) rfl e) rfl) (zBQ (gN_ok (args1 hc) rfl))) rfl
 ·rw [mem_visL,← hr]
  exact Iff.rfl
theorem zFP (R:Rg many ps) (h0:0≤start) (h1:start<many):∃ xs:List Int,zBP [.val (netD many ps),.val (.int start)]=.ok (false,.tup (xs.map D.int),.non)∧xs.Pairwise (· < ·)∧∀ x,x∈xs↔Rc ps [] start x:=by
 obtain ⟨xs,e,h⟩:=zRI (cl:=[]) R h0 h1
 exact ⟨xs,fn_rt (zBQ (zBA (ds:=[netD many ps,.int start,.tup []]) rfl e)) rfl,h⟩
end
noncomputable def sc (ps:List (Int × Int)) (x:Int):List Int:=(ps.filter fun p=>decide (p.1=x)).map (·.2)
theorem mem_sc {ps:List (Int × Int)} {x y:Int}:y∈sc ps x↔(x,y)∈ps:=by
 unfold sc
 constructor
 ·intro h
  obtain ⟨p,hp,rfl⟩:=List.mem_map.mp h
  obtain ⟨hp,e⟩:=List.mem_filter.mp hp
  have:=of_decide_eq_true e
  rw [← this]; exact hp
 ·intro h
  exact List.mem_map.mpr ⟨_,List.mem_filter.mpr ⟨h,decide_eq_true rfl⟩,rfl⟩
theorem zTF (ps:List (Int × Int)) (x:Int):(sc ps x).length≤ps.length:=by
 unfold sc; rw [List.length_map]; exact List.length_filter_le _ _
theorem zEW:∀ ns:List Int,D.nods (ns.map D.int)=true
 | []=>by simp [D.nods]
 | n::ns=>by simp [D.nods,D.nod,zEW ns]
theorem zFQ:∀ ns:List Int,D.flats (ns.map D.int)=true
 | []=>by simp [D.flats]
 | n::ns=>by simp [D.flats,D.flat,zFQ ns]
theorem zPC (x:Int) (c:Option Int):neD (.int x) (optD c)=.ok (.bl (decide (x∉c.toList))):=by
 cases c with
 | none=>rw [optD,zOA]; simp
 | some c=>rw [optD,zES]; simp
noncomputable def fsD (fs:List Int):D:=.dk (fs.map fun x=>(.inl x,.bl true))
theorem zRJ (fs:List Int) (x:Int):(kget (κ:=Key) (fs.map fun x=>(.inl x,.bl true)) (.inl x)).isSome=decide (x∈fs):=by
 unfold kget
 induction fs with
 | nil=>rfl
 | cons a fs ih =>
  rw [List.map_cons,List.find?_cons]
  by_cases e:a=x
  ·subst e; simp
  ·have e2:¬ ((Sum.inl a:Key)=.inl x):=fun z=>e (Sum.inl.inj z)
   simp only [e2,decide_false,ih]
   have:¬ x=a:=fun z=>e z.symm
   simp [this]
theorem zRK {fs:List Int} {x:Int} (h:x∉fs):kput (κ:=Key) (fs.map fun x=>(.inl x,.bl true)) (.inl x) (.bl true)=(fs++[x]).map fun x=>(.inl x,.bl true):=by
 unfold kput
 rw [if_neg]
 ·simp
 ·rw [List.any_map]
  intro z
  obtain ⟨a,ha,e⟩:=List.any_eq_true.mp z
  have:=Sum.inl.inj (of_decide_eq_true e)
  exact h (this ▸ ha)
section
variable {many:Int} {ps:List (Int × Int)} {closed:Option Int} {gate:Int}
noncomputable def env1 (many:Int) (ps:List (Int × Int)) (closed:Option Int) (gate:Int) (u3 u4 u5 u6 u7:Sl):Ev:=[.val (netD many ps),.val (.int gate),.val (optD closed),u3,u4,u5,u6,u7]
noncomputable def Tab (ps:List (Int × Int)) (kvs:List (Key × D)):Prop:=∀ x:Int,(kget kvs (.inl x)).getD (.lst [])=.lst ((sc ps x).map D.int)
theorem zOJ (hl:ps.length≤1000):∃ kvs u4 u5,gFor (gAnyI (g2 ixD (gVar 0) (gC (.int 1)))) (.tp [(.nm 4),(.nm 5)])
 (zAO 3 (gVar 4) (gBor [3] (g2 addD (gGet (gVar 3) (gVar 4) (gLst [])) (gLst [(gVar 5)])))) (env1 many ps closed gate (.own false (.dk [])) .no .no .no .no)=.ok (.nx (env1 many ps closed gate (.own false (.dk kvs)) u4 u5 .no .no))∧Tab ps kvs:=by
 obtain ⟨E',e,kvs,u4,u5,rfl,hk,ht⟩:=zCR (gi:=gAnyI (g2 ixD (gVar 0) (gC (.int 1)))) (t:=.tp [(.nm 4),(.nm 5)]) (g:=zAO 3 (gVar 4) (gBor [3] (g2 addD (gGet (gVar 3) (gVar 4) (gLst [])) (gLst [(gVar 5)])))) (E:=env1 many ps closed gate (.own false (.dk [])) .no .no .no .no) (ds:=ps.map pairD)
  (fun i E=>∃ kvs u4 u5,E=env1 many ps closed gate (.own false (.dk kvs)) u4 u5 .no .no∧kvs.length≤i∧Tab (ps.take i) kvs) (zMM (g2_ok (x:=netD many ps) (y:=.int 1) rfl rfl rfl)) ⟨[],_,_,rfl,Nat.le_refl _,fun x=>rfl⟩
  (fun i d E hd hP=>by
   obtain ⟨kvs,u4,u5,hE,hk,ht⟩:=hP
   subst hE
   rw [List.getElem?_map] at hd
   obtain ⟨⟨a,b⟩,hp,rfl⟩:=Option.map_eq_some_iff.mp hd
   have hil:=(List.getElem?_eq_some_iff.mp hp).1
   have hsl:=zTF (ps.take i) a
   rw [List.length_take] at hsl
   have hf:=zC3 (fun p:Int × Int=>decide (p.1=a)) hp
   have hg:gGet (gVar 3) (gVar 4) (gLst []) (hide [3] (env1 many ps closed gate (.own false (.dk kvs)) (.val (.int a)) (.val (.int b)) .no .no))=.ok (.lst ((sc (ps.take i) a).map D.int),hide [3] (env1 many ps closed gate (.own false (.dk kvs)) (.val (.int a)) (.val (.int b)) .no .no)):=by
    have:=zO8 (gd:=gVar 3) (gk:=gVar 4) (gx:=gLst []) (E:=hide [3] (env1 many ps closed gate (.own false (.dk kvs)) (.val (.int a)) (.val (.int b)) .no .no)) (a:=.dk kvs) (k:=.int a) (x:=.lst []) (o:=kget kvs (.inl a)) rfl rfl rfl rfl
    rw [ht a] at this
    exact this
   have hb:gBor [3] (g2 addD (gGet (gVar 3) (gVar 4) (gLst [])) (gLst [(gVar 5)])) (env1 many ps closed gate (.own false (.dk kvs)) (.val (.int a)) (.val (.int b)) .no .no)=.ok (.lst ((sc (ps.take (i+1)) a).map D.int),env1 many ps closed gate (.own false (.dk kvs)) (.val (.int a)) (.val (.int b)) .no .no):=by
    refine zCZ (g2_ok hg (y:=.lst [.int b]) rfl ?_) ?_
    ·refine add_l (by rw [List.length_map]; show _+1<10000; omega) ?_
     unfold sc
     rw [hf,if_pos (decide_eq_true rfl)]
     simp
    ·simp only [zEE,env1,D.flat,D.nod,zEW]; rfl
   refine ⟨_,rfl,_,zA5 (i:=3) (t:=false) (d:=.dk kvs) (k:=.int a) (d':=.dk (kput kvs (.inl a) (.lst ((sc (ps.take (i+1)) a).map D.int)))) rfl hb rfl rfl (by simp only [setD,toKey]; rw [few_y (by omega)]),kput kvs (.inl a) (.lst ((sc (ps.take (i+1)) a).map D.int)),_,_,rfl,Nat.le_trans (zD4 _ _ _) (by omega),fun x=>?_⟩
   by_cases ex:x=a
   ·subst ex; rw [zDF]; rfl
   ·rw [zET _ _ (fun z=>ex (Sum.inl.inj z)),ht x]
    have hf:=zC3 (fun p:Int × Int=>decide (p.1=x)) hp
    unfold sc
    rw [hf,if_neg (by simp only [decide_eq_true_eq]; exact fun z=>ex z.symm),List.append_nil])
 rw [List.length_map,List.take_length] at ht
 exact ⟨kvs,u4,u5,e,ht⟩
end
end My
namespace My
open PySem L2
section
variable {many:Int} {ps:List (Int × Int)} {closed:Option Int} {gate:Int}
noncomputable abbrev rcB:GS:=gIfS (gBorT [6] (gAndT (gB (g2 neD (gVar 5) (gVar 2))) (gB (g2 zEJ (gVar 5) (gVar 6)))))
 (gSeq (zAO 6 (gVar 5) (gC (.bl true)))
 (gDrop (gMeth 7 appD [(gVar 5)])))
 gNx
noncomputable def env2 (many:Int) (ps:List (Int × Int)) (closed:Option Int) (gate:Int) (u3 u4 u5:Sl) (fs row:List Int):Ev:=env1 many ps closed gate u3 u4 u5 (.own false (fsD fs)) (.own false (.lst (row.map D.int)))
theorem zOK (x:Int) (fs:List Int):zEJ (.int x) (fsD fs)=.ok (.bl (decide (x∉fs))):=by
 have:=zRJ fs x
 simp only [zEJ,inD,fsD,dgetD,toKey,Option.map_some]
 simp only [Out.bind,this]
 simp
theorem rstep {u3 u4 : Sl} {fs row : List Int} {y : Int} (hf : fs.length < 10000) (hr : row.length < 10000) :
    ∃ fs' row', rcB (env2 many ps closed gate u3 u4 (.val (.int y)) fs row) = .ok (.nx (env2 many ps closed gate u3 u4 (.val (.int y)) fs' row')) ∧
      ((y ∉ closed.toList ∧ y ∉ fs ∧ fs' = fs ++ [y] ∧ row' = row ++ [y]) ∨ ((y ∈ closed.toList ∨ y ∈ fs) ∧ fs' = fs ∧ row' = row)) := by
  obtain ⟨E0, hE0⟩ : ∃ E0, E0 = hide [6] (env2 many ps closed gate u3 u4 (.val (.int y)) fs row) := ⟨_, rfl⟩
  have t1 : gB (g2 neD (gVar 5) (gVar 2)) E0 = .ok (decide (y ∉ closed.toList), E0) := by
    rw [hE0]; exact gB_ok (g2_ok (x := .int y) (y := optD closed) rfl rfl (zPC _ _))
  have t2 : gB (g2 zEJ (gVar 5) (gVar 6)) E0 = .ok (decide (y ∉ fs), E0) := by
    rw [hE0]; exact gB_ok (g2_ok (x := .int y) (y := fsD fs) rfl rfl (zOK _ _))
  by_cases hc : y ∈ closed.toList
  · rw [decide_eq_false (fun z => z hc)] at t1
    exact ⟨fs, row, if_f (zBL (by rw [← hE0]; exact zML t1)) rfl, .inr ⟨.inl hc, rfl, rfl⟩⟩
  rw [decide_eq_true hc] at t1
  by_cases hm : y ∈ fs
  · rw [decide_eq_false (fun z => z hm)] at t2
    exact ⟨fs, row, if_f (zBL (by rw [← hE0]; exact zFO t1 t2)) rfl, .inr ⟨.inr hm, rfl, rfl⟩⟩
  rw [decide_eq_true hm] at t2
  refine ⟨fs ++ [y], row ++ [y], if_t (zBL (by rw [← hE0]; exact zFO t1 t2)) (zAI (E1 := env2 many ps closed gate u3 u4 (.val (.int y)) (fs ++ [y]) row) ?_ ?_), .inl ⟨hc, hm, rfl, rfl⟩⟩
  · exact zA5 (i := 6) (gk := gVar 5) (gv := gC (.bl true)) (E := env2 many ps closed gate u3 u4 (.val (.int y)) fs row) (E1 := env2 many ps closed gate u3 u4 (.val (.int y)) fs row) (E2 := env2 many ps closed gate u3 u4 (.val (.int y)) fs row) (t := false) (d := fsD fs) (k := .int y) (v := .bl true) (d' := fsD (fs ++ [y])) rfl rfl rfl rfl (by
      exact (set_k (by rw [List.length_map]; exact hf)).trans (by rw [zRK hm]; rfl))
  · have := zEV (i := 7) (f := appD) (gs := [gVar 5]) (E := env2 many ps closed gate u3 u4 (.val (.int y)) (fs ++ [y]) row) (xs := row.map D.int) (ds := [.int y]) (x := .non) (ds' := (row ++ [y]).map D.int) rfl rfl rfl (by
          simp only [appD, List.length_map]
          rw [few_y hr]; simp)
    exact zIT this
structure Fd (ps:List (Int × Int)) (cl:List Int) (gate many:Int) (fs row:List Int):Prop where
 nd:fs.Nodup
 rc:∀ x∈fs,Rc ps cl gate x
 rg:∀ x∈fs,0≤x∧x<many
 sub:∀ x∈row,x∈fs
theorem Fd.len {cl:List Int} {fs row:List Int} (F:Fd ps cl gate many fs row):fs.length≤many.toNat:=by
 have:=List.Nodup.length_le_of_subset (l₂:=(List.range many.toNat).map fun (j:Nat)=>(j:Int)) F.nd (fun x hx=>by
  obtain ⟨a,b⟩:=F.rg x hx
  exact List.mem_map.mpr ⟨x.toNat,List.mem_range.mpr (by omega),by omega⟩)
 simpa using this
theorem zRL (R:Rg many ps) {kvs:List (Key × D)} {u4 u5:Sl} {fs0 row0:List Int} {r:Int} (hr:r∈fs0) (F0:Fd ps closed.toList gate many fs0 row0) (hrl:row0.length≤fs0.length) :
  ∃ fs row u,gLoop (.nm 5) rcB ((sc ps r).map D.int) (env2 many ps closed gate (.val (.dk kvs)) u4 u5 fs0 row0)=.ok (.nx (env2 many ps closed gate (.val (.dk kvs)) u4 u fs row))∧Fd ps closed.toList gate many fs row∧(∀ x∈fs0,x∈fs)∧(∀ x∈row0,x∈row)∧(∀ x∈fs,x∈fs0∨x∈row)∧fs.length+row0.length=row.length+fs0.length∧∀ y,(r,y)∈ps→y∉closed.toList→y∈fs:=by
 have hm2:=R.m2
 obtain ⟨E',e,fs,row,u,rfl,F,a,b,c,d,ex⟩:=zGI (t:=.nm 5) (g:=rcB) (fun i E=>∃ fs row u,E=env2 many ps closed gate (.val (.dk kvs)) u4 u fs row∧Fd ps closed.toList gate many fs row∧(∀ x∈fs0,x∈fs)∧(∀ x∈row0,x∈row)∧(∀ x∈fs,x∈fs0∨x∈row)∧fs.length+row0.length=row.length+fs0.length∧∀ y∈(sc ps r).take i,y∉closed.toList→y∈fs)
  (ds:=(sc ps r).map D.int) (E:=env2 many ps closed gate (.val (.dk kvs)) u4 u5 fs0 row0) 0 ⟨fs0,row0,u5,rfl,F0,fun _ h=>h,fun _ h=>h,fun _ h=>.inl h,by omega,fun y h=>by simp at h⟩
  (fun i d E hd hP=>by
   rw [Nat.zero_add] at hP ⊢
   obtain ⟨fs,row,u,hE,F,a,b,c,hlen,ex⟩:=hP
   subst hE
   rw [List.getElem?_map] at hd
   obtain ⟨y,hy,rfl⟩:=Option.map_eq_some_iff.mp hd
   have hyp:(r,y)∈ps:=mem_sc.mp (List.mem_of_getElem? hy)
   obtain ⟨_,_,y0,y1⟩:=R.rg _ hyp
   have hfl:=F.len
   obtain ⟨fs',row',e,h⟩:=rstep (many:=many) (ps:=ps) (closed:=closed) (gate:=gate) (u3:=.val (.dk kvs)) (u4:=u4) (fs:=fs) (row:=row) (y:=y) (by omega) (by omega)
   have htk:(sc ps r).take (i+1)=(sc ps r).take i++[y]:=by
    obtain ⟨hi,e⟩:=List.getElem?_eq_some_iff.mp hy
    rw [List.take_succ_eq_append_getElem hi,e]
   refine ⟨_,rfl,_,e,fs',row',_,rfl,?_⟩
   rw [htk]
   rcases h with ⟨hc,hm,rfl,rfl⟩ | ⟨hor,rfl,rfl⟩
   ·refine ⟨⟨?_,?_,?_,?_⟩,fun x hx=>List.mem_append_left _ (a x hx),fun x hx=>List.mem_append_left _ (b x hx),?_,by simp; omega,?_⟩
    ·rw [List.nodup_append]
     exact ⟨F.nd,List.nodup_cons.mpr ⟨by simp,List.nodup_nil⟩,fun p hp q hq=>by rw [List.mem_singleton.mp hq]; exact fun z=>hm (z ▸ hp)⟩
    ·intro x hx
     rcases List.mem_append.mp hx with h | h
     ·exact F.rc x h
     ·rw [List.mem_singleton.mp h]; exact .step (F.rc r (a r hr)) hyp hc
    ·intro x hx
     rcases List.mem_append.mp hx with h | h
     ·exact F.rg x h
     ·rw [List.mem_singleton.mp h]; exact ⟨y0,y1⟩
    ·intro x hx
     rcases List.mem_append.mp hx with h | h
     ·exact List.mem_append_left _ (F.sub x h)
     ·exact List.mem_append_right _ h
    ·intro x hx
     rcases List.mem_append.mp hx with h | h
     ·rcases c x h with h | h
      ·exact .inl h
      ·exact .inr (List.mem_append_left _ h)
     ·exact .inr (List.mem_append_right _ h)
    ·intro z hz hzc
     rcases List.mem_append.mp hz with h | h
     ·exact List.mem_append_left _ (ex z h hzc)
     ·exact List.mem_append_right _ h
   ·refine ⟨F,a,b,c,hlen,fun z hz hzc=>?_⟩
    rcases List.mem_append.mp hz with h | h
    ·exact ex z h hzc
    ·rw [List.mem_singleton.mp h] at hzc ⊢
     exact hor.resolve_left hzc)
 refine ⟨fs,row,u,e,F,a,b,c,d,fun y hy hyc=>ex y ?_ hyc⟩
 rw [Nat.zero_add,List.length_map,List.take_length]
 exact mem_sc.mpr hy
theorem zMR (R:Rg many ps) {kvs:List (Key × D)} (ht:Tab ps kvs) {u3 u4 u5:Sl} (hu3:u3=.own false (.dk kvs)∨u3=.val (.dk kvs)) {fs0:List Int} (F0:Fd ps closed.toList gate many fs0 fs0) (hg:gate∈closed.toList∨gate∈fs0) :
  ∃ fs v3 v5,gWh (gBorT [7] (gB (g2 neD (gVar 7) (gLst [])))) (gFor (gAnyI (gGet (gVar 3) (gMeth 7 popD []) (gLst []))) (.nm 5) rcB) 100000 (env2 many ps closed gate u3 u4 u5 fs0 fs0)=.ok (.nx (env2 many ps closed gate v3 u4 v5 fs []))∧fs.Nodup∧∀ x,x∈fs↔Rc ps closed.toList gate x:=by
 have hm2:=R.m2
 obtain ⟨E',e,fs,u3',u5',rfl,h1,h2⟩:=zJL (t:=gBorT [7] (gB (g2 neD (gVar 7) (gLst [])))) (g:=gFor (gAnyI (gGet (gVar 3) (gMeth 7 popD []) (gLst []))) (.nm 5) rcB)
  (fun n E=>∃ fs row u3 u5,E=env2 many ps closed gate u3 u4 u5 fs row∧(u3=.own false (.dk kvs)∨u3=.val (.dk kvs))∧Fd ps closed.toList gate many fs row∧(gate∈closed.toList∨gate∈fs)∧(∀ x∈fs,x∈row∨∀ y,(x,y)∈ps→y∉closed.toList→y∈fs)∧row.length≤fs.length∧n=2 * (many.toNat - fs.length)+row.length)
  (fun E=>∃ fs u3 u5,E=env2 many ps closed gate u3 u4 u5 fs []∧fs.Nodup∧∀ x,x∈fs↔Rc ps closed.toList gate x)
  (fun n E hP=>by
   obtain ⟨fs,row,u3,u5,hE,hu3,F,hg,hex,hrl,hn⟩:=hP
   subst hE
   have tw:gBorT [7] (gB (g2 neD (gVar 7) (gLst []))) (env2 many ps closed gate u3 u4 u5 fs row)=.ok (!(row.map D.int).isEmpty,env2 many ps closed gate u3 u4 u5 fs row) :=
    zBL (gB_ok (g2_ok (x:=.lst (row.map D.int)) (y:=.lst []) rfl rfl (zMJ (Pls.ints 0 row))))
   rcases List.eq_nil_or_concat row with rfl | ⟨row',r,hrr⟩
   ·refine .inl ⟨_,tw,fs,u3,u5,rfl,F.nd,fun x=>⟨F.rc x,fun h=>?_⟩⟩
    induction h with
    | refl h=>exact hg.resolve_left h
    | step _ he hc ih =>
     rcases hex _ ih with h | h
     ·simp at h
     ·exact h _ he hc
   ·rw [List.concat_eq_append] at hrr
    subst hrr
    have hrf:r∈fs:=F.sub r (by simp)
    rw [List.length_append,List.length_singleton] at hrl hn
    have F':Fd ps closed.toList gate many fs row':=⟨F.nd,F.rc,F.rg,fun x hx=>F.sub x (List.mem_append_left _ hx)⟩
    obtain ⟨fs2,row2,u,e,F2,a,b,c,d,ex⟩:=zRL (kvs:=kvs) (u4:=u4) (u5:=u5) R hrf F' (by omega)
    have hfl:=F2.len
    have hfl2:=F.len
    have hfl3:=List.Nodup.length_le_of_subset F.nd a
    have hpop:gMeth 7 popD [] (env2 many ps closed gate (.val (.dk kvs)) u4 u5 fs (row'++[r]))=.ok (.int r,env2 many ps closed gate (.val (.dk kvs)) u4 u5 fs row') :=
     zEV (i:=7) (f:=popD) (gs:=[]) (t:=false) (xs:=(row'++[r]).map D.int) (ds:=[]) (x:=.int r) (ds':=row'.map D.int) rfl rfl rfl (by simp [popD])
    have hgi:gAnyI (gGet (gVar 3) (gMeth 7 popD []) (gLst [])) (env2 many ps closed gate u3 u4 u5 fs (row'++[r]))=.ok ((sc ps r).map D.int,env2 many ps closed gate (.val (.dk kvs)) u4 u5 fs row'):=by
     have h3:gVar 3 (env2 many ps closed gate u3 u4 u5 fs (row'++[r]))=.ok (.dk kvs,env2 many ps closed gate (.val (.dk kvs)) u4 u5 fs (row'++[r])):=by
      rcases hu3 with rfl | rfl <;> rfl
     have:=zO8 (gx:=gLst []) (x:=.lst []) (o:=kget kvs (.inl r)) h3 hpop rfl rfl
     rw [ht r] at this
     exact zGJ this
    refine .inr ⟨_,_,2 * (many.toNat - fs2.length)+row2.length,?_,zAG hgi e,by omega,fs2,row2,_,u,rfl,.inr rfl,F2,hg.imp id (a _),fun x hx=>?_,by omega,rfl⟩
    ·rw [tw]; simp
    ·rcases c x hx with h | h
     ·rcases hex x h with h | h
      ·rcases List.mem_append.mp h with h | h
       ·exact .inl (b x h)
       ·rw [List.mem_singleton.mp h]; exact .inr ex
      ·exact .inr fun y hy hyc=>a y (h y hy hyc)
     ·exact .inl h) 100000 (2 * (many.toNat - fs0.length)+fs0.length) (env2 many ps closed gate u3 u4 u5 fs0 fs0) (by have:=F0.len; omega)
  ⟨fs0,fs0,u3,u5,rfl,hu3,F0,hg,fun x h=>.inl h,Nat.le_refl _,rfl⟩
 exact ⟨fs,u3',u5',e,h1,h2⟩
theorem zMS (R:Rg many ps) (h0:0≤gate) (h1:gate<many):∃ fs:List Int,zBE [.val (netD many ps),.val (.int gate),.val (optD closed)]=.ok (false,.lst (fs.map D.int),.non)∧fs.Nodup∧∀ x,x∈fs↔Rc ps closed.toList gate x:=by
 obtain ⟨kvs,u4,u5,e1,ht⟩:=zOJ (many:=many) (ps:=ps) (closed:=closed) (gate:=gate) R.len
 obtain ⟨fs0,hfs,F0,hg⟩:∃ fs0:List Int,(gIf (gB (g2 neD (gVar 1) (gVar 2))) (zMC (gVar 1) (gC (.bl true))) (gC (.dk []))) (env1 many ps closed gate (.own false (.dk kvs)) u4 u5 .no .no)=.ok (fsD fs0,env1 many ps closed gate (.own false (.dk kvs)) u4 u5 .no .no)∧Fd ps closed.toList gate many fs0 fs0∧(gate∈closed.toList∨gate∈fs0):=by
  have t:=gB_ok (g2_ok (E:=env1 many ps closed gate (.own false (.dk kvs)) u4 u5 .no .no) (ga:=gVar 1) (gb:=gVar 2) (x:=.int gate) (y:=optD closed) rfl rfl (zPC _ _))
  by_cases hc:gate∈closed.toList
  ·rw [decide_eq_false (fun z=>z hc)] at t
   exact ⟨[],zAG t rfl,⟨List.nodup_nil,fun _ h=>by simp at h,fun _ h=>by simp at h,fun _ h=>h⟩,.inl hc⟩
  ·rw [decide_eq_true hc] at t
   exact ⟨[gate],zAG t rfl,⟨List.nodup_cons.mpr ⟨by simp,List.nodup_nil⟩,fun x h=>by rw [List.mem_singleton.mp h]; exact .refl hc,fun x h=>by rw [List.mem_singleton.mp h]; exact ⟨h0,h1⟩,fun _ h=>h⟩,.inr (by simp)⟩
 obtain ⟨fs,v3,v5,e2,nd,hm⟩:=zMR R ht (u5:=u5) (.inl rfl) F0 hg
 have hkeys:∀ l:List Int,(l.map fun x=>((.inl x,.bl true):Key × D)).map (fun kv=>keyD kv.1)=l.map D.int:=fun l=>by rw [List.map_map]; rfl
 refine ⟨fs,fn_rt (zAI (zCI (d:=.dk []) rfl) (zAI e1 (zAI (zCI hfs) (zAI (E1:=env2 many ps closed gate (.own false (.dk kvs)) u4 u5 fs0 fs0) (zCI (E':=env1 many ps closed gate (.own false (.dk kvs)) u4 u5 (.own false (fsD fs0)) .no) (zQ6 (d:=.lst (fs0.map D.int)) (gN_ok (args1 (d:=fsD fs0) rfl) ?_) (zFQ _))) (zAI e2 (zBQ (zCZ (d:=.lst (fs.map D.int)) (gN_ok (args1 (d:=fsD fs) rfl) ?_) ?_))))))) rfl,nd,hm⟩
 ·exact congrArg (fun l=>Out.ok (D.lst l)) (hkeys _)
 ·exact congrArg (fun l=>Out.ok (D.lst l)) (hkeys _)
 ·simp only [zEE,env2,env1,D.flat,D.nod,zEW]; rfl
end
end My
namespace My
open PySem L2
theorem tk {g:G} {E:Ev} {d:D} {k:Nat} {n:Int} (h0:E[0]?=some (.own true d)) (B:Bag k d) (hk:k<900000) (hg:g E=.ok (.int n,E)) (hn:1≤n) (hn2:n<1073741824) :
  ∃ r d',zAM zAB 0 [g] E=.ok (.int r,E.set 0 (.own true d'))∧0≤r∧r<n∧Bag (k+1) d':=by
 obtain ⟨r,d',e,a,b,B'⟩:=zQ9 B hk hn hn2
 exact ⟨r,d',zJO h0 (args1 hg) h0 e,a,b,B'⟩
theorem zHT {α β:Type} (f:α→β):∀ (l:List α) (i:Nat),(l.map f).eraseIdx i=(l.eraseIdx i).map f
 | [],_=>rfl
 | _::_,0=>rfl
 | a::l,i+1=>by simp [zHT f l i]
theorem zFR {α:Type}:∀ {l:List α} {i:Nat} (h:i<l.length),(l[i]::l.eraseIdx i).Perm l
 | a::l,0,_=>.refl _
 | a::l,i+1,h=>by
  have:=zFR (l:=l) (i:=i) (by simpa using h)
  simp only [List.getElem_cons_succ,List.eraseIdx_cons_succ]
  exact (List.Perm.swap _ _ _).trans (this.cons a)
theorem zRM {d:D} {k:Nat} {xs:List Int} (B:Bag k d) (hx:xs.length≤1000) (hk:k<800000) :
  ∃ (ys:List Int) (d':D),zA3 [.own true d,.val (.lst (xs.map D.int))]=.ok (false,.lst (ys.map D.int),d')∧ys.Perm xs∧Bag (k+xs.length) d':=by
 obtain ⟨E',e,ys,d',rfl,hp,B'⟩:=zJL (t:=gBorT [2] (gB (g2 neD (gVar 2) (gLst [])))) (g:=gDrop (gMeth 3 appD [(gMeth 2 zDU [(zAM zAB 0 [(gBor [2] (gN lenD [(gVar 2)]))])])]))
  (fun n E=>∃ (rest found:List Int) (d:D),E=[.own true d,.val (.lst (xs.map D.int)),.own false (.lst (rest.map D.int)),.own false (.lst (found.map D.int))]∧(found++rest).Perm xs∧Bag (k+found.length) d∧n=rest.length)
  (fun E=>∃ (found:List Int) (d:D),E=[.own true d,.val (.lst (xs.map D.int)),.own false (.lst []),.own false (.lst (found.map D.int))]∧found.Perm xs∧Bag (k+xs.length) d)
  (fun n E hP=>by
   obtain ⟨rest,found,d,hE,hp,B,hn⟩:=hP
   subst hE
   have hlen:=hp.length_eq
   rw [List.length_append] at hlen
   have tw:gBorT [2] (gB (g2 neD (gVar 2) (gLst []))) [.own true d,.val (.lst (xs.map D.int)),.own false (.lst (rest.map D.int)),.own false (.lst (found.map D.int))]=.ok (!(rest.map D.int).isEmpty,[.own true d,.val (.lst (xs.map D.int)),.own false (.lst (rest.map D.int)),.own false (.lst (found.map D.int))]) :=
    zBL (gB_ok (g2_ok (x:=.lst (rest.map D.int)) (y:=.lst []) rfl rfl (zMJ (Pls.ints 0 rest))))
   by_cases hr:rest=[]
   ·subst hr
    rw [List.append_nil] at hp
    exact .inl ⟨_,tw,found,d,rfl,hp,by rw [← hp.length_eq]; exact B⟩
   ·have hpos:0<rest.length:=List.length_pos_iff.mpr hr
    have hg:gBor [2] (gN lenD [(gVar 2)]) [.own true d,.val (.lst (xs.map D.int)),.own false (.lst (rest.map D.int)),.own false (.lst (found.map D.int))]=.ok (.int (rest.length:Int),[.own true d,.val (.lst (xs.map D.int)),.own false (.lst (rest.map D.int)),.own false (.lst (found.map D.int))]) :=
     zCZ (gN_ok (args1 (d:=.lst (rest.map D.int)) rfl) (len_l (List.length_map _))) rfl
    obtain ⟨r,d',et,r0,r1,B'⟩:=tk (g:=gBor [2] (gN lenD [(gVar 2)])) (E:=[.own true d,.val (.lst (xs.map D.int)),.own false (.lst (rest.map D.int)),.own false (.lst (found.map D.int))]) rfl B (by omega) hg (by omega) (by omega)
    have hrl:r.toNat<rest.length:=by omega
    have hpop:gMeth 2 zDU [(zAM zAB 0 [(gBor [2] (gN lenD [(gVar 2)]))])] [.own true d,.val (.lst (xs.map D.int)),.own false (.lst (rest.map D.int)),.own false (.lst (found.map D.int))]=.ok (.int rest[r.toNat],[.own true d',.val (.lst (xs.map D.int)),.own false (.lst ((rest.eraseIdx r.toNat).map D.int)),.own false (.lst (found.map D.int))]) :=
     zEV (i:=2) (f:=zDU) (t:=false) (xs:=rest.map D.int) (ds:=[.int r]) (x:=.int rest[r.toNat]) (ds':=(rest.eraseIdx r.toNat).map D.int) rfl (args1 et) rfl (by
      simp only [zDU,List.length_map,L2.guard]
      rw [if_pos ⟨r0,by omega,by omega⟩,List.getElem?_map,List.getElem?_eq_getElem hrl]
      simp [zHT])
    refine .inr ⟨_,_,(rest.eraseIdx r.toNat).length,?_,zIT (zEV (i:=3) (f:=appD) (t:=false) (xs:=found.map D.int) (ds:=[.int rest[r.toNat]]) (x:=.non) (ds':=(found++[rest[r.toNat]]).map D.int) rfl (args1 hpop) rfl (by
      simp only [appD,List.length_map]
      rw [few_y (by omega)]; simp)),?_,rest.eraseIdx r.toNat,found++[rest[r.toNat]],d',rfl,?_,?_,rfl⟩
    ·rw [tw]
     cases rest with
     | nil=>exact absurd rfl hr
     | cons a l=>rfl
    ·rw [List.length_eraseIdx_of_lt hrl]; omega
    ·rw [List.append_assoc]
     exact ((zFR hrl).append_left found).trans hp
    ·rw [List.length_append,List.length_singleton,← Nat.add_assoc]; exact B') 100000 xs.length [.own true d,.val (.lst (xs.map D.int)),.own false (.lst (xs.map D.int)),.own false (.lst [])] (by omega)
  ⟨xs,[],d,rfl,List.Perm.refl _,B,rfl⟩
 exact ⟨ys,d',fn_rt (zAI (zCI (d:=.lst (xs.map D.int)) rfl) (zAI (zCI (d:=.lst []) rfl) (zAI e (zBQ (d:=.lst (ys.map D.int)) rfl)))) rfl,hp,B'⟩
noncomputable def nenv (d:D) (most:Int) (u2 u3 u4 u5 u6 u7 u8 u9 u10 u11:Sl):Ev:=[.own true d,.val (.int most),u2,u3,u4,u5,u6,u7,u8,u9,u10,u11]
theorem pick {xs:List Int} {ds:List D} {x:D} {i:Int} (h0:0≤i) (h:ds[i.toNat]?=some x):ixD (.lst ds) (.int i)=.ok x:=by
 exact ix_l (zJN h0 h)
theorem net1 {d:D} {k:Nat} {most:Int} (B:Bag k d) (hk:k<800000) (h1:1≤most) (h2:most≤24) :
  ∃ many d',gAsg (.nm 2) (g2 ixD (gLst [(gVar 1),(g2 addD (gC (.int 1)) (zAM zAB 0 [(gVar 1)])),(g2 addD (gC (.int 1)) (zAM zAB 0 [(gN min2D [(gC (.int 7)),(gVar 1)])]))]) (zAM zAB 0 [(gC (.int 3))]))
   (nenv d most .no .no .no .no .no .no .no .no .no .no)=.ok (.nx (nenv d' most (.val (.int many)) .no .no .no .no .no .no .no .no .no))∧1≤many∧many≤most∧Bag (k+3) d':=by
 obtain ⟨a,d1,e1,a0,a1,B1⟩:=tk (g:=gVar 1) (E:=nenv d most .no .no .no .no .no .no .no .no .no .no) rfl B (by omega) rfl h1 (by omega)
 obtain ⟨b,d2,e2,b0,b1,B2⟩:=tk (g:=gN min2D [(gC (.int 7)),(gVar 1)]) (E:=nenv d1 most .no .no .no .no .no .no .no .no .no .no) (n:=if most<7 then most else 7) rfl B1 (by omega) rfl (by split <;> omega) (by split <;> omega)
 obtain ⟨c,d3,e3,c0,c1,B3⟩:=tk (g:=gC (.int 3)) (E:=nenv d2 most .no .no .no .no .no .no .no .no .no .no) rfl B2 (by omega) rfl (by omega) (by omega)
 have hb:b<most:=by split at b1 <;> omega
 have key:∃ many:Int,([D.int most,.int (1+a),.int (1+b)])[c.toNat]?=some (.int many)∧1≤many∧many≤most:=by
  have:c=0∨c=1∨c=2:=by omega
  rcases this with rfl | rfl | rfl
  ·exact ⟨most,rfl,h1,Int.le_refl _⟩
  ·exact ⟨1+a,rfl,by omega,by omega⟩
  ·exact ⟨1+b,rfl,by omega,by omega⟩
 obtain ⟨many,hm,m0,m1⟩:=key
 refine ⟨many,d3,zA7 (g2_ok (zDX (zAL (d:=.int most) rfl (zAL (g2_ok (x:=.int 1) rfl e1 (d:=.int (1+a)) rfl) (args1 (g2_ok (x:=.int 1) rfl e2 (d:=.int (1+b)) rfl)))) (show 3<10000 by decide)) e3 (pick (xs:=[]) c0 hm)) rfl,m0,m1,B3⟩
theorem net2 {d:D} {k:Nat} {most many kind:Int} (B:Bag k d) (hk:k<800000) (h1:1≤many) (h2:many≤24) :
  ∃ wanted d',gAsg (.nm 4) (g2 ixD (gLst [(gC (.int 0)),(gC (.int 1)),(zAM zAB 0 [(g2 addD (gVar 2) (gC (.int 1)))]),(g2 addD (gVar 2) (zAM zAB 0 [(g2 mulD (gC (.int 5)) (gVar 2))])),(gC (.int 120))]) (zAM zAB 0 [(gC (.int 5))]))
   (nenv d most (.val (.int many)) (.val (.int kind)) .no .no .no .no .no .no .no .no)=.ok (.nx (nenv d' most (.val (.int many)) (.val (.int kind)) (.val (.int wanted)) .no .no .no .no .no .no .no))∧0≤wanted∧wanted≤200∧Bag (k+3) d':=by
 obtain ⟨a,d1,e1,a0,a1,B1⟩:=tk (g:=g2 addD (gVar 2) (gC (.int 1))) (E:=nenv d most (.val (.int many)) (.val (.int kind)) .no .no .no .no .no .no .no .no) rfl B (by omega) rfl (by omega) (by omega)
 have hmul:mulD (.int 5) (.int many)=.ok (.int (5 * many)):=by
  simp only [mulD,L2.guard]; rw [if_pos (.inl ⟨by decide,by decide⟩)]
 obtain ⟨b,d2,e2,b0,b1,B2⟩:=tk (g:=g2 mulD (gC (.int 5)) (gVar 2)) (E:=nenv d1 most (.val (.int many)) (.val (.int kind)) .no .no .no .no .no .no .no .no) rfl B1 (by omega) (g2_ok (x:=.int 5) (y:=.int many) rfl rfl hmul) (by omega) (by omega)
 obtain ⟨c,d3,e3,c0,c1,B3⟩:=tk (g:=gC (.int 5)) (E:=nenv d2 most (.val (.int many)) (.val (.int kind)) .no .no .no .no .no .no .no .no) rfl B2 (by omega) rfl (by omega) (by omega)
 have key:∃ w:Int,([D.int 0,.int 1,.int a,.int (many+b),.int 120])[c.toNat]?=some (.int w)∧0≤w∧w≤200:=by
  have:c=0∨c=1∨c=2∨c=3∨c=4:=by omega
  rcases this with rfl | rfl | rfl | rfl | rfl
  ·exact ⟨0,rfl,by decide,by decide⟩
  ·exact ⟨1,rfl,by decide,by decide⟩
  ·exact ⟨a,rfl,by omega,by omega⟩
  ·exact ⟨many+b,rfl,by omega,by omega⟩
  ·exact ⟨120,rfl,by decide,by decide⟩
 obtain ⟨w,hw,w0,w1⟩:=key
 exact ⟨w,d3,zA7 (g2_ok (zDX (zAL (d:=.int 0) rfl (zAL (d:=.int 1) rfl (zAL e1 (zAL (g2_ok (x:=.int many) rfl e2 (d:=.int (many+b)) rfl) (args1 (d:=.int 120) rfl))))) (show 5<10000 by decide)) e3 (pick (xs:=[]) c0 hw)) rfl,w0,w1,B3⟩
structure Ln (many:Int) (kvs:List (List Int × D)):Prop where
 nd:(kvs.map (·.1)).Nodup
 rg:∀ k∈kvs.map (·.1),∃ a b:Int,k=[a,b]∧0≤a∧a<many∧0≤b∧b<many∧a≠b
theorem zHU (kvs:List (List Int × D)) (k:List Int) (v:D):(kput kvs k v).map (·.1)=if k∈kvs.map (·.1) then kvs.map (·.1) else kvs.map (·.1)++[k]:=by
 unfold kput
 by_cases h:k∈kvs.map (·.1)
 ·rw [if_pos h,if_pos]
  ·rw [List.map_map]
   refine List.map_congr_left fun kv _=>?_
   simp only [Function.comp]
   split <;> rfl
  ·obtain ⟨kv,hkv,e⟩:=List.mem_map.mp h
   exact List.any_eq_true.mpr ⟨kv,hkv,decide_eq_true e⟩
 ·rw [if_neg h,if_neg]
  ·simp
  ·intro z
   obtain ⟨kv,hkv,e⟩:=List.any_eq_true.mp z
   exact h (List.mem_map.mpr ⟨kv,hkv,of_decide_eq_true e⟩)
theorem Ln.put {many:Int} {kvs:List (List Int × D)} (L:Ln many kvs) {a b:Int} (h:0≤a∧a<many∧0≤b∧b<many∧a≠b) (v:D):Ln many (kput kvs [a,b] v):=by
 constructor
 ·rw [zHU]
  split
  ·exact L.nd
  ·rename_i hn
   rw [List.nodup_append]
   exact ⟨L.nd,List.nodup_cons.mpr ⟨by simp,List.nodup_nil⟩,fun p hp q hq=>by rw [List.mem_singleton.mp hq]; exact fun z=>hn (z ▸ hp)⟩
 ·rw [zHU]
  split
  ·exact L.rg
  ·intro k hk
   rcases List.mem_append.mp hk with h' | h'
   ·exact L.rg k h'
   ·exact ⟨a,b,List.mem_singleton.mp h',h⟩
theorem zPD {kvs:List (List Int × D)} {a b:Int} (h:kvs.length<10000):setD (.dt kvs) (.tup [.int a,.int b]) (.bl true)=.ok (.dt (kput kvs [a,b] (.bl true))):=by
 exact few_y h
end My
namespace My
open PySem L2
noncomputable abbrev l1B:GS:=gIfS (gB (g2 ltD (gVar 3) (gC (.int 3))))
 (zAO 5 (gTup' [(g2 ixD (gLst [(zAM zAB 0 [(gVar 6)]),(g2 subD (g2 subD (gVar 6) (gC (.int 1))) (zAM zAB 0 [(gN min2D [(gVar 6),(gC (.int 2))])])),(gC (.int 0))]) (gVar 3)),(gVar 6)]) (gC (.bl true)))
 gNx
section
variable {most many kind wanted:Int}
noncomputable abbrev ne1 (d:D) (most many kind wanted:Int) (kvs:List (List Int × D)) (u6 u7 u8 u9:Sl):Ev:=nenv d most (.val (.int many)) (.val (.int kind)) (.val (.int wanted)) (.own false (.dt kvs)) u6 u7 u8 u9 .no .no
theorem l1_ok {d:D} {k:Nat} (B:Bag k d) (hk:k<800000) (h1:1≤many) (h2:many≤24) (hk0:0≤kind) :
  ∃ (d':D) (kvs:List (List Int × D)) (u6:Sl),gFor (gRng2 (gC (.int 1)) (gVar 2)) (.nm 6) l1B (ne1 d most many kind wanted [] .no .no .no .no)=.ok (.nx (ne1 d' most many kind wanted kvs u6 .no .no .no))∧Bag (k+48) d'∧Ln many kvs∧kvs.length≤24:=by
 obtain ⟨E',e,d',kvs,u6,rfl,B',L,hl⟩:=zCR (gi:=gRng2 (gC (.int 1)) (gVar 2)) (t:=.nm 6) (g:=l1B) (E:=ne1 d most many kind wanted [] .no .no .no .no)
  (fun i E=>∃ (d':D) (kvs:List (List Int × D)) (u6:Sl),E=ne1 d' most many kind wanted kvs u6 .no .no .no∧Bag (k+2 * i) d'∧Ln many kvs∧kvs.length≤i) (zQ7 (i:=1) (j:=many) rfl rfl ⟨⟨by decide,by decide⟩,by omega,by omega⟩) ⟨d,[],.no,rfl,B,⟨List.nodup_nil,fun _ h=>by simp at h⟩,Nat.le_refl _⟩
  (fun i x E hx hP=>by
   obtain ⟨d,kvs,u6,hE,B,L,hl⟩:=hP
   subst hE
   have hi:=(List.getElem?_eq_some_iff.mp hx).1
   simp only [rngL,List.length_map,List.length_range] at hi
   simp only [rngL] at hx
   rw [List.getElem?_map,List.getElem?_range hi] at hx
   obtain rfl:=Option.some.inj hx
   obtain ⟨p,hp⟩:∃ p:Int,p=1+(i:Int):=⟨_,rfl⟩
   show ∃ E1,gTg (Tg.nm 6) (.int (1+(i:Int))) (ne1 d most many kind wanted kvs u6 Sl.no Sl.no Sl.no)=Out.ok E1∧_
   rw [← hp]
   refine ⟨_,rfl,?_⟩
   by_cases hk3:kind<3
   ·obtain ⟨a,d1,e1,a0,a1,B1⟩:=tk (g:=gVar 6) (E:=ne1 d most many kind wanted kvs (.val (.int p)) .no .no .no) (n:=p) rfl B (by omega) rfl (by omega) (by omega)
    obtain ⟨b,d2,e2,b0,b1,B2⟩:=tk (g:=gN min2D [(gVar 6),(gC (.int 2))]) (E:=ne1 d1 most many kind wanted kvs (.val (.int p)) .no .no .no) (n:=if 2<p then 2 else p) rfl B1 (by omega) rfl (by split <;> omega) (by split <;> omega)
    have key:∃ v:Int,([D.int a,.int (p - 1 - b),.int 0])[kind.toNat]?=some (.int v)∧0≤v∧v<p:=by
     have:kind=0∨kind=1∨kind=2:=by omega
     rcases this with h | h | h
     ·exact ⟨a,by rw [h]; rfl,a0,a1⟩
     ·exact ⟨p - 1 - b,by rw [h]; rfl,by split at b1 <;> omega,by omega⟩
     ·exact ⟨0,by rw [h]; rfl,by omega,by omega⟩
    obtain ⟨v,hv,v0,v1⟩:=key
    refine ⟨_,if_t (gB_ok (g2_ok (x:=.int kind) (y:=.int 3) rfl rfl (d:=.bl true) (by simp only [ltD]; rw [decide_eq_true hk3]))) (zA5 (i:=5) (E1:=ne1 d most many kind wanted kvs (.val (.int p)) .no .no .no) (E2:=ne1 d2 most many kind wanted kvs (.val (.int p)) .no .no .no) (t:=false) (d:=.dt kvs) (v:=.bl true) rfl rfl (zFN (zAL (g2_ok (zDX (zAL e1 (zAL (g2_ok (x:=.int (p - 1)) rfl e2 (d:=.int (p - 1 - b)) rfl) (args1 (d:=.int 0) rfl))) (show 3<10000 by decide)) (y:=.int kind) rfl (pick (xs:=[]) hk0 hv)) (args1 (d:=.int p) rfl)) (show 2<10000 by decide)) rfl (zPD (by omega))),d2,_,_,rfl,B2.mono (by omega),L.put ⟨v0,by omega,by omega,by omega,by omega⟩ _,Nat.le_trans (zD4 _ _ _) (by omega)⟩
   ·exact ⟨_,if_f (gB_ok (g2_ok (x:=.int kind) (y:=.int 3) rfl rfl (d:=.bl false) (by simp only [ltD]; rw [decide_eq_false hk3]))) rfl,d,kvs,_,rfl,B.mono (by omega),L,by omega⟩)
 simp only [rngL,List.length_map,List.length_range] at B' hl
 exact ⟨d',kvs,u6,e,B'.mono (by omega),L,by omega⟩
noncomputable abbrev l2B:GS:=(gSeq (gAsg (.nm 8) (zAM zAB 0 [(gVar 2)]))
 (gSeq (gAsg (.nm 9) (g2 ixD (gLst [(zAM zAB 0 [(gVar 2)]),(g2 modD (g2 addD (g2 addD (gVar 8) (gC (.int 1))) (zAM zAB 0 [(gC (.int 2))])) (gVar 2))]) (zAM zAB 0 [(gC (.int 2))])))
 (gIfS (gBorT [5] (gAndT (gB (g2 neD (gVar 8) (gVar 9))) (gB (g2 ltD (gN lenD [(gVar 5)]) (gC (.int 120))))))
 (zAO 5 (gTup' [(gVar 8),(gVar 9)]) (gC (.bl true)))
 gNx)))
theorem l2_ok {d:D} {k:Nat} {u6:Sl} {kvs:List (List Int × D)} (B:Bag k d) (hk:k<800000) (h1:1≤many) (h2:many≤24) (hw0:0≤wanted) (hw1:wanted≤200) (L:Ln many kvs) (hl:kvs.length≤120) :
  ∃ (d':D) (kvs':List (List Int × D)) (u7 u8 u9:Sl),gFor (gRng1 (gVar 4)) (.nm 7) l2B (ne1 d most many kind wanted kvs u6 .no .no .no)=.ok (.nx (ne1 d' most many kind wanted kvs' u6 u7 u8 u9))∧Bag (k+800) d'∧Ln many kvs'∧kvs'.length≤120:=by
 obtain ⟨E',e,d',kvs',u7,u8,u9,rfl,B',L',hl'⟩:=zCR (gi:=gRng1 (gVar 4)) (t:=.nm 7) (g:=l2B) (E:=ne1 d most many kind wanted kvs u6 .no .no .no)
  (fun i E=>∃ (d':D) (kvs:List (List Int × D)) (u7 u8 u9:Sl),E=ne1 d' most many kind wanted kvs u6 u7 u8 u9∧Bag (k+4 * i) d'∧Ln many kvs∧kvs.length≤120) (zEU (j:=wanted) rfl ⟨by omega,by omega⟩) ⟨d,kvs,.no,.no,.no,rfl,B,L,hl⟩
  (fun i x E hx hP=>by
   obtain ⟨d,kvs,u7,u8,u9,hE,B,L,hl⟩:=hP
   subst hE
   have hi:=(List.getElem?_eq_some_iff.mp hx).1
   simp only [rngL,List.length_map,List.length_range] at hi
   obtain ⟨a,d1,e1,a0,a1,B1⟩:=tk (g:=gVar 2) (E:=ne1 d most many kind wanted kvs u6 (.val x) u8 u9) (n:=many) rfl B (by omega) rfl (by omega) (by omega)
   obtain ⟨b,d2,e2,b0,b1,B2⟩:=tk (g:=gVar 2) (E:=ne1 d1 most many kind wanted kvs u6 (.val x) (.val (.int a)) u9) (n:=many) rfl B1 (by omega) rfl (by omega) (by omega)
   obtain ⟨c,d3,e3,c0,c1,B3⟩:=tk (g:=gC (.int 2)) (E:=ne1 d2 most many kind wanted kvs u6 (.val x) (.val (.int a)) u9) (n:=2) rfl B2 (by omega) rfl (by omega) (by omega)
   obtain ⟨f,d4,e4,f0,f1,B4⟩:=tk (g:=gC (.int 2)) (E:=ne1 d3 most many kind wanted kvs u6 (.val x) (.val (.int a)) u9) (n:=2) rfl B3 (by omega) rfl (by omega) (by omega)
   have m0:0≤(a+1+c) % many:=Int.emod_nonneg _ (by omega)
   have m1:(a+1+c) % many<many:=Int.emod_lt_of_pos _ (by omega)
   have hmod:modD (.int (a+1+c)) (.int many)=.ok (.int ((a+1+c) % many)):=by
    simp only [modD,L2.guard]; rw [if_pos (by omega)]
   have key:∃ v:Int,([D.int b,.int ((a+1+c) % many)])[f.toNat]?=some (.int v)∧0≤v∧v<many:=by
    have:f=0∨f=1:=by omega
    rcases this with h | h
    ·exact ⟨b,by rw [h]; rfl,b0,b1⟩
    ·exact ⟨(a+1+c) % many,by rw [h]; rfl,m0,m1⟩
   obtain ⟨v,hv,v0,v1⟩:=key
   refine ⟨_,rfl,?_⟩
   have s1:gAsg (.nm 8) (zAM zAB 0 [(gVar 2)]) (ne1 d most many kind wanted kvs u6 (.val x) u8 u9)=.ok (.nx (ne1 d1 most many kind wanted kvs u6 (.val x) (.val (.int a)) u9)):=zA7 e1 rfl
   have s2:gAsg (.nm 9) (g2 ixD (gLst [(zAM zAB 0 [(gVar 2)]),(g2 modD (g2 addD (g2 addD (gVar 8) (gC (.int 1))) (zAM zAB 0 [(gC (.int 2))])) (gVar 2))]) (zAM zAB 0 [(gC (.int 2))])) (ne1 d1 most many kind wanted kvs u6 (.val x) (.val (.int a)) u9)=.ok (.nx (ne1 d4 most many kind wanted kvs u6 (.val x) (.val (.int a)) (.val (.int v)))) :=
    zA7 (g2_ok (zDX (zAL e2 (args1 (g2_ok (g2_ok (x:=.int (a+1)) rfl e3 (d:=.int (a+1+c)) rfl) (y:=.int many) rfl hmod))) (show 2<10000 by decide)) e4 (pick (xs:=[]) f0 hv)) rfl
   have t1:gB (g2 neD (gVar 8) (gVar 9)) (hide [5] (ne1 d4 most many kind wanted kvs u6 (.val x) (.val (.int a)) (.val (.int v))))=.ok (decide (a≠v),hide [5] (ne1 d4 most many kind wanted kvs u6 (.val x) (.val (.int a)) (.val (.int v)))) :=
    gB_ok (g2_ok (x:=.int a) (y:=.int v) rfl rfl (zES _ _))
   have t2:gB (g2 ltD (gN lenD [(gVar 5)]) (gC (.int 120))) (hide [5] (ne1 d4 most many kind wanted kvs u6 (.val x) (.val (.int a)) (.val (.int v))))=.ok (decide ((kvs.length:Int)<120),hide [5] (ne1 d4 most many kind wanted kvs u6 (.val x) (.val (.int a)) (.val (.int v)))) :=
    gB_ok (g2_ok (x:=.int kvs.length) (gN_ok (args1 (d:=.dt kvs) rfl) rfl) (y:=.int 120) rfl rfl)
   by_cases hav:a=v
   ·rw [decide_eq_false (fun z=>z hav)] at t1
    exact ⟨_,zAI s1 (zAI s2 (if_f (zBL (zML t1)) rfl)),d4,kvs,_,_,_,rfl,B4.mono (by omega),L,hl⟩
   rw [decide_eq_true hav] at t1
   by_cases hfull:(kvs.length:Int)<120
   ·rw [decide_eq_true hfull] at t2
    exact ⟨_,zAI s1 (zAI s2 (if_t (zBL (zFO t1 t2)) (zA5 (i:=5) (E1:=ne1 d4 most many kind wanted kvs u6 (.val x) (.val (.int a)) (.val (.int v))) (E2:=ne1 d4 most many kind wanted kvs u6 (.val x) (.val (.int a)) (.val (.int v))) (t:=false) (d:=.dt kvs) (v:=.bl true) (k:=.tup [.int a,.int v]) rfl rfl rfl rfl (zPD (by omega))))),d4,_,_,_,_,rfl,B4.mono (by omega),L.put ⟨a0,a1,v0,v1,hav⟩ _,Nat.le_trans (zD4 _ _ _) (by omega)⟩
   ·rw [decide_eq_false hfull] at t2
    exact ⟨_,zAI s1 (zAI s2 (if_f (zBL (zFO t1 t2)) rfl)),d4,kvs,_,_,_,rfl,B4.mono (by omega),L,hl⟩)
 simp only [rngL,List.length_map,List.length_range] at B'
 exact ⟨d',kvs',u7,u8,u9,e,B'.mono (by omega),L',hl'⟩
end
end My
namespace My
open PySem L2
noncomputable def ri (n:Nat):List Int:=(List.range n).map fun (j:Nat)=>(0:Int)+(j:Int)
theorem zPE (n:Nat):rngL 0 n=(ri n).map D.int:=by simp [rngL,ri]
theorem mem_ri {n:Nat} {x:Int}:x∈ri n↔0≤x∧x<n:=by
 unfold ri
 constructor
 ·intro h
  obtain ⟨j,hj,rfl⟩:=List.mem_map.mp h
  have:=List.mem_range.mp hj
  omega
 ·rintro ⟨a,b⟩
  exact List.mem_map.mpr ⟨x.toNat,List.mem_range.mpr (by omega),by omega⟩
theorem nd_ri (n:Nat):(ri n).Nodup:=List.Pairwise.map _ (fun a b h z=>h (by omega)) List.nodup_range
theorem zJV (n:Nat):(ri n).length=n:=by simp [ri]
noncomputable def nmI (ys:List Int) (a:Int):Int:=ys.getD a.toNat 0
noncomputable def pk (ys:List Int) (k:List Int):Int × Int:=match k with
 | [a,b]=>(nmI ys a,nmI ys b)
 | _=>(0,0)
theorem ix_nm {ys:List Int} {a:Int} (h0:0≤a) (h:a.toNat<ys.length):ixD (.lst (ys.map D.int)) (.int a)=.ok (.int (nmI ys a)):=by
 refine pick (xs:=[]) h0 ?_
 rw [List.getElem?_map,List.getElem?_eq_getElem h]
 simp [nmI,h]
theorem zMT {ys:List Int} {a:Int} (h:a.toNat<ys.length):nmI ys a∈ys:=by
 have:nmI ys a=ys[a.toNat]:=by simp [nmI,h]
 rw [this]; exact List.getElem_mem h
theorem zMU {ys:List Int} (hn:ys.Nodup) {a b:Int} (a0:0≤a) (b0:0≤b) (ha:a.toNat<ys.length) (hb:b.toNat<ys.length) (e:nmI ys a=nmI ys b):a=b:=by
 have e1:nmI ys a=ys[a.toNat]:=by simp [nmI,ha]
 have e2:nmI ys b=ys[b.toNat]:=by simp [nmI,hb]
 rw [e1,e2] at e
 rcases Nat.lt_trichotomy a.toNat b.toNat with h | h | h
 ·exact absurd e (List.pairwise_iff_getElem.mp hn _ _ ha hb h)
 ·omega
 ·exact absurd e.symm (List.pairwise_iff_getElem.mp hn _ _ hb ha h)
theorem zFS:∀ ps:List (Int × Int),D.nods (ps.map pairD)=true
 | []=>by simp [D.nods]
 | p::ps=>by simp [D.nods,D.nod,pairD,zFS ps]
section
variable {most many kind wanted:Int}
noncomputable def zMV (ys:List Int) (d:D):List D:=match d with
 | .tup [.int a,.int b]=>[pairD (nmI ys a,nmI ys b)]
 | _=>[]
theorem zJW {ys:List Int}:∀ {ks:List (List Int)},(∀ k∈ks,∃ a b:Int,k=[a,b]∧0≤a∧a<many∧0≤b∧b<many∧a≠b)→(ks.map keyT).flatMap (zMV ys)=(ks.map (pk ys)).map pairD
 | [],_=>rfl
 | k::ks,h=>by
  obtain ⟨a,b,rfl,_⟩:=h k List.mem_cons_self
  simp only [List.map_cons,List.flatMap_cons,zJW fun k hk=>h k (List.mem_cons_of_mem _ hk)]
  rfl
theorem zC0 {x many:Int} {n:Nat} (h:n=many.toNat) (h0:0≤x) (h1:x<many):x.toNat<n:=by omega
theorem zRN {d:D} {k:Nat} (B:Bag k d) (hk:k<700000) (h1:1≤most) (h2:most≤24) :
  ∃ (many:Int) (ps:List (Int × Int)) (gate:Int) (d':D),zB0 [.own true d,.val (.int most)]=.ok (false,.tup [netD many ps,.int gate],d')∧Net many ps∧many≤most∧0≤gate∧gate<many∧Bag (k+1000) d':=by
 obtain ⟨many,d1,e1,m1,m2,B1⟩:=net1 B (by omega) h1 h2
 obtain ⟨kind,d2,e2,k0,k1,B2⟩:=tk (g:=gC (.int 4)) (E:=nenv d1 most (.val (.int many)) .no .no .no .no .no .no .no .no .no) rfl B1 (by omega) rfl (by omega) (by omega)
 obtain ⟨wanted,d3,e3,w0,w1,B3⟩:=net2 (most:=most) (many:=many) (kind:=kind) B2 (by omega) m1 (by omega)
 obtain ⟨d4,kvs,u6,e4,B4,L4,l4⟩:=l1_ok (most:=most) (many:=many) (kind:=kind) (wanted:=wanted) B3 (by omega) m1 (by omega) k0
 obtain ⟨d5,kvs,u7,u8,u9,e5,B5,L5,l5⟩:=l2_ok (most:=most) (many:=many) (kind:=kind) (wanted:=wanted) (u6:=u6) B4 (by omega) m1 (by omega) w0 w1 L4 (by omega)
 obtain ⟨ys,d6,e6,hp,B6⟩:=zRM (xs:=ri many.toNat) B5 (by rw [zJV]; omega) (by omega)
 have hyl:ys.length=many.toNat:=by rw [hp.length_eq,zJV]
 have hyn:ys.Nodup:=hp.nodup_iff.mpr (nd_ri _)
 have hym:∀ x,x∈ys→0≤x∧x<many:=fun x hx=>by have:=mem_ri.mp (hp.mem_iff.mp hx); omega
 rw [zJV] at B6
 have s6:gAsg (.nm 10) (zAM zA3 0 [(gLR (gVar 2))]) (ne1 d5 most many kind wanted kvs u6 u7 u8 u9)=.ok (.nx (nenv d6 most (.val (.int many)) (.val (.int kind)) (.val (.int wanted)) (.own false (.dt kvs)) u6 u7 u8 u9 (.val (.lst (ys.map D.int))) .no)):=by
  refine zA7 (zJO (ds:=[.lst ((ri many.toNat).map D.int)]) (E1:=ne1 d5 most many kind wanted kvs u6 u7 u8 u9) (t:=true) (d:=d5) rfl (args1 (zAG (a:=(.int many,ne1 d5 most many kind wanted kvs u6 u7 u8 u9)) rfl ?_)) rfl e6) rfl
  simp only [L2.guard]
  rw [if_pos ⟨by omega,by omega⟩,zPE]
 obtain ⟨a,d7,e7,a0,a1,B7⟩:=tk (g:=gVar 2) (E:=nenv d6 most (.val (.int many)) (.val (.int kind)) (.val (.int wanted)) (.own false (.dt kvs)) u6 u7 u8 u9 (.val (.lst (ys.map D.int))) .no) (n:=many) rfl B6 (by omega) rfl (by omega) (by omega)
 obtain ⟨c,d8,e8,c0,c1,B8⟩:=tk (g:=gC (.int 3)) (E:=nenv d7 most (.val (.int many)) (.val (.int kind)) (.val (.int wanted)) (.own false (.dt kvs)) u6 u7 u8 u9 (.val (.lst (ys.map D.int))) .no) (n:=3) rfl B7 (by omega) rfl (by omega) (by omega)
 have hz:(0:Int).toNat<ys.length:=by rw [hyl]; omega
 have hz2:=hym _ (zMT (ys:=ys) (a:=0) hz)
 have key:∃ g:Int,([D.int (nmI ys 0),.int (nmI ys 0),.int a])[c.toNat]?=some (.int g)∧0≤g∧g<many:=by
  have:c=0∨c=1∨c=2:=by omega
  rcases this with h | h | h
  ·exact ⟨_,by rw [h]; rfl,hz2.1,hz2.2⟩
  ·exact ⟨_,by rw [h]; rfl,hz2.1,hz2.2⟩
  ·exact ⟨a,by rw [h]; rfl,a0,a1⟩
 obtain ⟨gate,hg,g0,g1⟩:=key
 obtain ⟨E9,hE9⟩:∃ E9,E9=nenv d8 most (.val (.int many)) (.val (.int kind)) (.val (.int wanted)) (.own false (.dt kvs)) u6 u7 u8 u9 (.val (.lst (ys.map D.int))) (.val (.int gate)):=⟨_,rfl⟩
 have s7:gAsg (.nm 11) (g2 ixD (gLst [(g2 ixD (gVar 10) (gC (.int 0))),(g2 ixD (gVar 10) (gC (.int 0))),(zAM zAB 0 [(gVar 2)])]) (zAM zAB 0 [(gC (.int 3))])) (nenv d6 most (.val (.int many)) (.val (.int kind)) (.val (.int wanted)) (.own false (.dt kvs)) u6 u7 u8 u9 (.val (.lst (ys.map D.int))) .no)=.ok (.nx E9):=by
  rw [hE9]
  exact zA7 (g2_ok (zDX (zAL (g2_ok (x:=.lst (ys.map D.int)) (y:=.int 0) rfl rfl (ix_nm (by decide) hz)) (zAL (g2_ok (x:=.lst (ys.map D.int)) (y:=.int 0) rfl rfl (ix_nm (by decide) hz)) (args1 e7))) (show 3<10000 by decide)) e8 (pick (xs:=[]) c0 hg)) rfl
 obtain ⟨qs,hqs⟩:∃ qs,qs=(kvs.map (·.1)).map (pk ys):=⟨_,rfl⟩
 have hcomp:gComp (gAnyI (gVar 5)) 2 [10] (.tp [(.nm 0),(.nm 1)]) gYes (gTup' [(g2 ixD (gVar 2) (gVar 0)),(g2 ixD (gVar 2) (gVar 1))]) (hide [5] E9)=.ok (.lst (qs.map pairD),hide [5] E9):=by
  have:=zDN (gi:=gAnyI (gVar 5)) (k:=2) (js:=[10]) (t:=.tp [(.nm 0),(.nm 1)]) (tt:=gYes) (ge:=gTup' [(g2 ixD (gVar 2) (gVar 0)),(g2 ixD (gVar 2) (gVar 1))]) (E:=hide [5] E9) (E1:=hide [5] E9) (ds:=(kvs.map (·.1)).map keyT) (zMV ys) (fun E=>∃ x y,E=[x,y,.val (.lst (ys.map D.int))]) (by rw [List.map_map,hE9]; rfl) (by rw [hE9]; exact ⟨_,_,rfl⟩) (by rw [List.length_map,List.length_map]; omega) (fun x hx E hE=>by
   obtain ⟨ky,hky,rfl⟩:=List.mem_map.mp hx
   obtain ⟨p,q,rfl⟩:=hE
   obtain ⟨a,b,rfl,a0,a1,b0,b1,_⟩:=L5.rg ky hky
   exact ⟨_,rfl,true,_,rfl,.inl ⟨rfl,_,_,zFN (zAL (g2_ok (x:=.lst (ys.map D.int)) (y:=.int a) rfl rfl (ix_nm a0 (zC0 hyl a0 a1))) (args1 (g2_ok (x:=.lst (ys.map D.int)) (y:=.int b) rfl rfl (ix_nm b0 (zC0 hyl b0 b1))))) (show 2<10000 by decide),rfl,_,_,rfl⟩⟩) (fun Ec hEc=>by
   rw [hE9]
   have:∀ (u:Sl) (j:Nat),j≠10→bckS Ec 2 [10] j (hideS [5] j u)=hideS [5] j u:=fun u j hj=>by
    cases u with
    | no=>rfl
    | val d=>rfl
    | own t d =>
     simp only [hideS]
     split <;> rfl
   simp only [bck,hide,nenv,hideF,bckF,Nat.zero_add,Nat.reduceAdd]
   rw [this u6 6 (by decide),this u7 7 (by decide),this u8 8 (by decide),this u9 9 (by decide)]
   rfl)
  rw [this,zJW L5.rg,hqs]
 have hnet:Net many (sortP qs):=by
  have pm:=zBW qs
  refine ⟨m1,by omega,by rw [pm.length_eq,hqs,List.length_map,List.length_map]; exact l5,fun p hp=>?_,zJP ?_⟩
  ·have hp:=pm.mem_iff.mp hp
   rw [hqs] at hp
   obtain ⟨ky,hky,rfl⟩:=List.mem_map.mp hp
   obtain ⟨a,b,rfl,a0,a1,b0,b1,ab⟩:=L5.rg ky hky
   have ha:=hym _ (zMT (ys:=ys) (a:=a) (zC0 hyl a0 a1))
   have hb:=hym _ (zMT (ys:=ys) (a:=b) (zC0 hyl b0 b1))
   exact ⟨ha.1,ha.2,hb.1,hb.2,fun z=>ab (zMU hyn a0 b0 (zC0 hyl a0 a1) (zC0 hyl b0 b1) z)⟩
  ·rw [hqs]
   refine List.pairwise_map.mpr (List.Pairwise.imp_of_mem ?_ L5.nd)
   intro x y hx hy hxy z
   obtain ⟨a,b,rfl,a0,a1,b0,b1,ab⟩:=L5.rg x hx
   obtain ⟨a',b',rfl,a0',a1',b0',b1',ab'⟩:=L5.rg y hy
   simp only [pk,Prod.mk.injEq] at z
   exact hxy (by rw [zMU hyn a0 a0' (zC0 hyl a0 a1) (zC0 hyl a0' a1') z.1,zMU hyn b0 b0' (zC0 hyl b0 b1) (zC0 hyl b0' b1') z.2])
 refine ⟨many,sortP qs,gate,d8,fn_rt (E':=E9) (zAI e1 (zAI (zA7 e2 rfl) (zAI e3 (zAI (zCI (d:=.dt []) rfl) (zAI e4 (zAI e5 (zAI s6 (zAI s7 (zBQ (zCZ (d:=.tup [netD many (sortP qs),.int gate]) (zFN (zAL (zFN (zAL (d:=.int many) (by rw [hE9]; rfl) (args1 (gN_ok (args1 (gN_ok (args1 hcomp) (zC4 qs))) rfl))) (show 2<10000 by decide)) (args1 (d:=.int gate) (by rw [hE9]; rfl))) (show 2<10000 by decide)) ?_)))))))))) (by rw [hE9]; rfl),hnet,m2,g0,g1,B8.mono (by omega)⟩
 rw [hE9]
 simp only [zEE,nenv,netD,D.flat,D.flats,D.nod,D.nods,zFS]
 rfl
end
end My
namespace My
open PySem L2
theorem Net.rg' {many:Int} {ps:List (Int × Int)} (N:Net many ps):Rg many ps:=⟨by have:=N.m1; omega,by have:=N.m2; omega,by have:=N.len; omega,fun p hp=>let ⟨a,b,c,d,_⟩:=N.rg p hp; ⟨a,b,c,d⟩⟩
theorem mem_back {ps:List (Int × Int)} {a b:Int}:(a,b)∈back ps↔(b,a)∈ps:=by
 unfold back
 rw [(zBW _).mem_iff,List.mem_map]
 constructor
 ·rintro ⟨⟨x,y⟩,h,e⟩
  simp only [swapP,Prod.mk.injEq] at e
  obtain ⟨rfl,rfl⟩:=e
  exact h
 ·intro h
  exact ⟨(b,a),h,rfl⟩
theorem Rc.head {ps:List (Int × Int)} {x y a:Int} (he:(y,x)∈ps) (h:Rc ps [] x a):Rc ps [] y a:=by
 induction h with
 | refl _=>exact .step (.refl (by simp)) he (by simp)
 | step _ e c ih=>exact .step ih e c
theorem Rc.rev {ps qs:List (Int × Int)} (hq:∀ a b,(a,b)∈ps→(b,a)∈qs) {a b:Int} (h:Rc ps [] a b):Rc qs [] b a:=by
 induction h with
 | refl _=>exact .refl (by simp)
 | step _ e c ih=>exact Rc.head (hq _ _ e) ih
theorem Rc.range {many:Int} {ps:List (Int × Int)} {cl:List Int} (R:Rg many ps) {g x:Int} (h0:0≤g) (h1:g<many) (h:Rc ps cl g x):0≤x∧x<many:=by
 cases h with
 | refl _=>exact ⟨h0,h1⟩
 | step _ e _=>obtain ⟨_,_,a,b⟩:=R.rg _ e; exact ⟨a,b⟩
theorem zPF {xs ys:List Int} (hx:xs.Pairwise (· < ·)) (hy:ys.Pairwise (· < ·)) (h:∀ x,x∈xs↔x∈ys):xs=ys:=by
 have nx:xs.Nodup:=hx.imp fun e=>Int.ne_of_lt e
 have ny:ys.Nodup:=hy.imp fun e=>Int.ne_of_lt e
 have p:=(List.perm_ext_iff_of_nodup nx ny).mpr h
 exact (zGD p (hx.imp fun e=>Int.le_of_lt e)).trans (zGD (.refl ys) (hy.imp fun e=>Int.le_of_lt e)).symm
theorem zOL {xs:List Int} (h:xs.Nodup):(sortI xs).Pairwise (· < ·):=by
 have h2:(sortI xs).Nodup:=(zDL xs).nodup_iff.mpr h
 exact ((zJE xs).and h2).imp fun {a b} e=>by have:=e.1; have:=e.2; omega
theorem Pl.net (many:Int) (ps:List (Int × Int)):Pl 60 (netD many ps) :=
 (Pls.tup (n:=59) (.cons (.int _ _) (.cons (Pl.mono (Pls.tup (n:=57) (Pls.of fun p _=>(Pls.tup (n:=56) (.cons (.int _ _) (.cons (.int _ _) (.nil _)))))) (by decide)) (.nil _))))
theorem Pl.intsT (xs:List Int):Pl 60 (.tup (xs.map D.int)):=Pls.tup (n:=59) (Pls.ints _ xs)
theorem zOM {α β:Type} (f:α→β) (xs:List α) (lo hi:Option Int):cutA (xs.map f) lo hi=(cutA xs lo hi).map f:=by
 unfold cutA
 rw [List.length_map,← List.map_drop,← List.map_take]
section
variable {many:Int} {ps:List (Int × Int)} {sc:D}
noncomputable def lenv (sc:D) (u1 u2 u3 u4 u5 u6:Sl):Ev:=[.val sc,u1,u2,u3,u4,u5,u6]
noncomputable def TabR (ps:List (Int × Int)) (i:Int) (kvs:List (Key × D)):Prop:=∀ j:Int,0≤j→j<i→∃ xs:List Int,kget kvs (.inl j)=some (.tup (xs.map D.int))∧∀ x,x∈xs↔Rc ps [] j x
noncomputable abbrev b5:GS:=(gSeq (gAsg (.nm 6) (gCall zBP [(gVar 2),(gVar 5)]))
 (gSeq (gIfS (gOrT (gNotT (gTru (gInst "tuple" (gVar 6)))) (gB (g2 neD (gVar 6) (gN tupD [(gN sortD [(gCall zBE [(gVar 2),(gVar 5),(gC .non)])])]))))
 (gRet (gC (.bl false)))
 gNx)
 (zAO 4 (gVar 5) (gVar 6))))
noncomputable abbrev envB (sc:D) (many:Int) (ps:List (Int × Int)) (u1 u4 u5 u6:Sl):Ev:=lenv sc u1 (.val (netD many ps)) (.val (netD many (back ps))) u4 u5 u6
theorem b5_ok (N:Net many ps) {u1 u5 u6:Sl}:∃ (kvs:List (Key × D)) (v5 v6:Sl),gFor (gRng1 (g2 ixD (gVar 2) (gC (.int 0)))) (.nm 5) b5 (envB sc many ps u1 (.own false (.dk [])) u5 u6)=.ok (.nx (envB sc many ps u1 (.own false (.dk kvs)) v5 v6))∧TabR ps many kvs:=by
 have R:=N.rg'
 have hm1:=N.m1
 have hm2:=N.m2
 obtain ⟨E',e,kvs,v5,v6,rfl,hl,ht⟩:=zCR (gi:=gRng1 (g2 ixD (gVar 2) (gC (.int 0)))) (t:=.nm 5) (g:=b5) (E:=envB sc many ps u1 (.own false (.dk [])) u5 u6)
  (fun i E=>∃ (kvs:List (Key × D)) (v5 v6:Sl),E=envB sc many ps u1 (.own false (.dk kvs)) v5 v6∧kvs.length≤i∧TabR ps i kvs) (zEU (j:=many) (g2_ok (x:=netD many ps) (y:=.int 0) rfl rfl rfl) ⟨by omega,by omega⟩) ⟨[],u5,u6,rfl,Nat.le_refl _,fun j a b=>by omega⟩
  (fun i x E hx hP=>by
   obtain ⟨kvs,v5,v6,hE,hl,ht⟩:=hP
   subst hE
   have hi:=(List.getElem?_eq_some_iff.mp hx).1
   simp only [rngL,List.length_map,List.length_range] at hi
   simp only [rngL] at hx
   rw [List.getElem?_map,List.getElem?_range hi] at hx
   obtain rfl:=Option.some.inj hx
   obtain ⟨p,hp⟩:∃ p:Int,p=0+(i:Int):=⟨_,rfl⟩
   show ∃ E1,gTg (Tg.nm 5) (.int (0+(i:Int))) (envB sc many ps u1 (.own false (.dk kvs)) v5 v6)=Out.ok E1∧_
   rw [← hp]
   refine ⟨_,rfl,?_⟩
   obtain ⟨xs,e1,pw,hm⟩:=zFP (start:=p) R (by omega) (by omega)
   obtain ⟨fs,e2,nd,hf⟩:=zMS (closed:=none) (gate:=p) R (by omega) (by omega)
   have heq:sortI fs=xs:=zPF (zOL nd) pw fun x=>by rw [(zDL fs).mem_iff,hf,hm]; rfl
   have s1:gAsg (.nm 6) (gCall zBP [(gVar 2),(gVar 5)]) (envB sc many ps u1 (.own false (.dk kvs)) (.val (.int p)) v6)=.ok (.nx (envB sc many ps u1 (.own false (.dk kvs)) (.val (.int p)) (.val (.tup (xs.map D.int))))):=zA7 (zBA (ds:=[netD many ps,.int p]) rfl e1) rfl
   have t1:gOrT (gNotT (gTru (gInst "tuple" (gVar 6)))) (gB (g2 neD (gVar 6) (gN tupD [(gN sortD [(gCall zBE [(gVar 2),(gVar 5),(gC .non)])])]))) (envB sc many ps u1 (.own false (.dk kvs)) (.val (.int p)) (.val (.tup (xs.map D.int))))=.ok (false,envB sc many ps u1 (.own false (.dk kvs)) (.val (.int p)) (.val (.tup (xs.map D.int)))) :=
    orT_f (zCJ (b:=true) (tru_y (zDO (d:=.tup (xs.map D.int)) rfl) rfl)) (gB_ok (g2_ok (x:=.tup (xs.map D.int)) rfl (gN_ok (args1 (gN_ok (args1 (zBA (ds:=[netD many ps,.int p,.non]) rfl e2)) (zKK fs))) (d:=.tup (xs.map D.int)) (by rw [heq]; rfl)) (zD3 (Pl.intsT xs))))
   refine ⟨_,zAI s1 (zAI (if_f t1 rfl) (zA5 (i:=4) (E1:=envB sc many ps u1 (.own false (.dk kvs)) (.val (.int p)) (.val (.tup (xs.map D.int)))) (E2:=envB sc many ps u1 (.own false (.dk kvs)) (.val (.int p)) (.val (.tup (xs.map D.int)))) (t:=false) (d:=.dk kvs) (v:=.tup (xs.map D.int)) (k:=.int p) (d':=.dk (kput kvs (.inl p) (.tup (xs.map D.int)))) rfl rfl rfl rfl (by simp only [setD,toKey]; rw [few_y (by omega)]))),_,_,_,rfl,Nat.le_trans (zD4 _ _ _) (by omega),fun j j0 j1=>?_⟩
   by_cases ej:j=p
   ·subst ej; exact ⟨xs,zDF _ _ _,hm⟩
   ·obtain ⟨zs,h1,h2⟩:=ht j j0 (by omega)
    exact ⟨zs,by rw [zET _ _ (fun z=>ej (Sum.inl.inj z))]; exact h1,h2⟩)
 simp only [rngL,List.length_map,List.length_range] at ht
 exact ⟨kvs,v5,v6,e,by rwa [show ((many.toNat:Nat):Int)=many by omega] at ht⟩
noncomputable abbrev b6:GS:=(gIfS (gBorT [4] (gB (g2 neD (gCall zBP [(gVar 3),(gVar 5)]) (gN tupD [(gComp (gRng1 (g2 ixD (gVar 2) (gC (.int 0)))) 1 [4,5] (.nm 0) (gB (g2 inD (gVar 2) (g2 ixD (gVar 1) (gVar 0)))) (gVar 0))]))))
 (gRet (gC (.bl false)))
 gNx)
open Classical in
noncomputable def fromF (ps:List (Int × Int)) (g:Int) (d:D):List D:=match d with
 | .int p=>if Rc ps [] p g then [.int p] else []
 | _=>[]
open Classical in
theorem zHV (ps:List (Int × Int)) (g:Int):∀ l:List Int,(l.map D.int).flatMap (fromF ps g)=(l.filter fun p=>decide (Rc ps [] p g)).map D.int
 | []=>rfl
 | x::l=>by
  rw [List.map_cons,List.flatMap_cons,zHV ps g l,fromF]
  by_cases h:Rc ps [] x g
  ·rw [if_pos h,List.filter_cons,if_pos (decide_eq_true h)]; rfl
  ·rw [if_neg h,List.filter_cons,if_neg (by simpa using h)]; rfl
theorem ri_pw (n:Nat):(ri n).Pairwise (· < ·):=List.pairwise_map.mpr (List.Pairwise.imp (fun h=>by omega) List.pairwise_lt_range)
open Classical in
theorem b6_ok (N:Net many ps) {u1 u5 u6:Sl} {kvs:List (Key × D)} (ht:TabR ps many kvs):∃ v5:Sl,gFor (gRng1 (g2 ixD (gVar 2) (gC (.int 0)))) (.nm 5) b6 (envB sc many ps u1 (.own false (.dk kvs)) u5 u6)=.ok (.nx (envB sc many ps u1 (.own false (.dk kvs)) v5 u6)):=by
 have R:=N.rg'
 have hm1:=N.m1
 have hm2:=N.m2
 obtain ⟨E',e,v5,rfl⟩:=zCR (gi:=gRng1 (g2 ixD (gVar 2) (gC (.int 0)))) (t:=.nm 5) (g:=b6) (E:=envB sc many ps u1 (.own false (.dk kvs)) u5 u6)
  (fun i E=>∃ (v5:Sl),E=envB sc many ps u1 (.own false (.dk kvs)) v5 u6) (zEU (j:=many) (g2_ok (x:=netD many ps) (y:=.int 0) rfl rfl rfl) ⟨by omega,by omega⟩) ⟨u5,rfl⟩
  (fun i x E hx hP=>by
   obtain ⟨v5,hE⟩:=hP
   subst hE
   have hi:=(List.getElem?_eq_some_iff.mp hx).1
   simp only [rngL,List.length_map,List.length_range] at hi
   simp only [rngL] at hx
   rw [List.getElem?_map,List.getElem?_range hi] at hx
   obtain rfl:=Option.some.inj hx
   obtain ⟨p,hp⟩:∃ p:Int,p=0+(i:Int):=⟨_,rfl⟩
   show ∃ E1,gTg (Tg.nm 5) (.int (0+(i:Int))) (envB sc many ps u1 (.own false (.dk kvs)) v5 u6)=Out.ok E1∧_
   rw [← hp]
   refine ⟨_,rfl,?_⟩
   obtain ⟨xs,e1,pw,hm⟩:=zFP (start:=p) N.back.rg' (by omega) (by omega)
   obtain ⟨E0,hE0⟩:∃ E0,E0=hide [4] (envB sc many ps u1 (.own false (.dk kvs)) (.val (.int p)) u6):=⟨_,rfl⟩
   have hcomp:gComp (gRng1 (g2 ixD (gVar 2) (gC (.int 0)))) 1 [4,5] (.nm 0) (gB (g2 inD (gVar 2) (g2 ixD (gVar 1) (gVar 0)))) (gVar 0) E0=.ok (.lst (((ri many.toNat).filter fun q=>decide (Rc ps [] q p)).map D.int),E0):=by
    have:=zDN (gi:=gRng1 (g2 ixD (gVar 2) (gC (.int 0)))) (k:=1) (js:=[4,5]) (t:=.nm 0) (tt:=gB (g2 inD (gVar 2) (g2 ixD (gVar 1) (gVar 0)))) (ge:=gVar 0) (E:=E0) (E1:=E0) (ds:=(ri many.toNat).map D.int) (fromF ps p) (fun E=>∃ x,E=[x,.val (.dk kvs),.val (.int p)]) (by
     rw [hE0,← zPE]
     exact zEU (j:=many) (g2_ok (x:=netD many ps) (y:=.int 0) rfl rfl rfl) ⟨by omega,by omega⟩) (by rw [hE0]; exact ⟨_,rfl⟩) (by rw [List.length_map,zJV]; omega) (fun x hx E hE=>by
     obtain ⟨q,hq,rfl⟩:=List.mem_map.mp hx
     obtain ⟨y,rfl⟩:=hE
     have hq:=mem_ri.mp hq
     obtain ⟨zs,h1,h2⟩:=ht q hq.1 (by omega)
     have hix:ixD (.dk kvs) (.int q)=.ok (.tup (zs.map D.int)):=by
      exact ix_k h1
     refine ⟨_,rfl,decide (p∈zs),_,gB_ok (g2_ok (x:=.int p) rfl (g2_ok (x:=.dk kvs) (y:=.int q) rfl rfl hix) (zIS _ _)),?_⟩
     by_cases hz:p∈zs
     ·exact .inl ⟨decide_eq_true hz,.int q,_,rfl,by rw [fromF,if_pos ((h2 p).mp hz)],_,rfl⟩
     ·exact .inr ⟨decide_eq_false hz,by rw [fromF,if_neg (fun z=>hz ((h2 p).mpr z))],_,rfl⟩) (fun Ec hEc=>by
     rw [hE0]
     have:∀ (u:Sl) (j:Nat),j≠4→bckS Ec 1 [4,5] j (hideS [4] j u)=hideS [4] j u:=fun u j hj=>by
      cases u with
      | no=>rfl
      | val d=>rfl
      | own t d =>
       simp only [hideS]
       split
       ·rfl
       ·rfl
     simp only [bck,hide,lenv,hideF,bckF,Nat.zero_add,Nat.reduceAdd]
     rw [this u1 1 (by decide),this u6 6 (by decide)]
     rfl)
    rw [this,zHV]
   have heq:((ri many.toNat).filter fun q=>decide (Rc ps [] q p))=xs:=zPF ((ri_pw _).filter _) pw fun x=>by
    rw [List.mem_filter,mem_ri,hm,decide_eq_true_eq]
    constructor
    ·rintro ⟨_,h⟩; exact h.rev fun a b h=>mem_back.mpr h
    ·intro h
     have:=h.range N.back.rg' (by omega) (by omega)
     exact ⟨by omega,h.rev fun a b h=>mem_back.mp h⟩
   rw [heq] at hcomp
   refine ⟨_,if_f (zBL (d:=false) (E':=E0) ?_) rfl,_,rfl⟩
   show gB _ (hide [4] (envB sc many ps u1 (.own false (.dk kvs)) (.val (.int p)) u6))=_
   rw [← hE0]
   exact gB_ok (g2_ok (x:=.tup (xs.map D.int)) (zBA (ds:=[netD many (back ps),.int p]) (by rw [hE0]; rfl) e1) (gN_ok (args1 hcomp) rfl) (zD3 (Pl.intsT xs))))
 exact ⟨v5,e⟩
end
theorem zRO (ns:List Int):∃ c:Int,zBJ [.val (.lst (ns.map D.int)),.val (.int 0)]=.ok (false,.int c,.non):=by
 unfold zBJ
 cases ns with
 | nil=>exact ⟨0,fn_rt (zAI (if_f (E1:=[.val (.lst []),.val (.int 0)]) (gB_ok (g2_ok (x:=.int 0) (y:=.int 0) rfl (gN_ok (args1 (d:=.lst []) rfl) rfl) rfl)) rfl) (zBQ (d:=.int 0) rfl)) rfl⟩
 | cons n ns =>
  refine ⟨n,fn_rt (zJK (E1:=[.val (.lst ((n::ns).map D.int)),.val (.int 0)]) (if_t (E1:=[.val (.lst ((n::ns).map D.int)),.val (.int 0)]) (gB_ok (g2_ok (x:=.int 0) (y:=.int ((n::ns).map D.int).length) rfl (gN_ok (args1 (d:=.lst ((n::ns).map D.int)) rfl) rfl) ?_)) (zBQ (g2_ok (x:=.lst ((n::ns).map D.int)) (y:=.int 0) rfl rfl (pick (xs:=[]) (by decide) rfl))))) rfl⟩
  simp only [ltD]
  rw [decide_eq_true (by simp only [List.map_cons,List.length_cons]; omega)]
theorem law_true:∀ ns:List Int,ns.length≤63→∃ b d',m_law [.val (.lst (ns.map D.int))]=.ok (b,.bl true,d'):=by
 intro ns hns
 obtain ⟨c,ec⟩:=zRO ns
 obtain ⟨sc,hsc⟩:∃ sc:D,sc=.lst (ns.map D.int):=⟨_,rfl⟩
 have hcut:(cutA ns (some 1) (some 10)).length≤63:=by
  unfold cutA
  rw [List.length_take,List.length_drop]; omega
 obtain ⟨E',e,u1,u2,u3,u4,u5,u6,rfl⟩:=zCR (gi:=gAnyI (g2 addD (gLst [(gCall zBJ [(gVar 0),(gC (.int 0))])]) (zHI (gVar 0) (some (gC (.int 1))) (some (gC (.int 10)))))) (t:=.nm 1)
  (g:=(gSeq (gAsg (.nm 2) (g2 ixD (zFJ zB0 (zFE zBK [(gVar 1),(gC (.int 0))]) [(gC (.int 24))]) (gC (.int 0))))
 (gSeq (gAsg (.nm 3) (gCall zBU [(gVar 2)]))
 (gSeq (gIfS (gOrT (gB (g2 neD (gVar 3) (gTup' [(g2 ixD (gVar 2) (gC (.int 0))),(gN tupD [(gN sortD [(gComp (gAnyI (g2 ixD (gVar 2) (gC (.int 1)))) 2 [] (.tp [(.nm 0),(.nm 1)]) gYes (gTup' [(gVar 1),(gVar 0)]))])])]))) (gOrT (gNotT (gTru (gCall zCW [(gVar 3)]))) (gB (g2 neD (gCall zBU [(gVar 3)]) (gVar 2)))))
 (gRet (gC (.bl false)))
 gNx)
 (gSeq (gSetF 4 (gC (.dk [])))
 (gSeq (gFor (gRng1 (g2 ixD (gVar 2) (gC (.int 0)))) (.nm 5) b5)
 (gFor (gRng1 (g2 ixD (gVar 2) (gC (.int 0)))) (.nm 5) b6))))))) (E:=lenv sc .no .no .no .no .no .no) (E1:=lenv sc .no .no .no .no .no .no) (ds:=(c::cutA ns (some 1) (some 10)).map D.int)
  (fun i E=>∃ u1 u2 u3 u4 u5 u6,E=lenv sc u1 u2 u3 u4 u5 u6)
  (by
   rw [hsc]
   refine zGJ (g2_ok (x:=.lst [.int c]) (y:=.lst ((cutA ns (some 1) (some 10)).map D.int)) (zDX (args1 (zBA (ds:=[.lst (ns.map D.int),.int 0]) rfl ec)) (show 1<10000 by decide)) ?_ ?_)
   ·rw [← zOM]; rfl
   ·exact add_l (by rw [List.length_map]; show 1+_<10000; omega) rfl) ⟨_,_,_,_,_,_,rfl⟩
  (fun i x E hx hP=>by
   obtain ⟨u1,u2,u3,u4,u5,u6,hE⟩:=hP
   subst hE
   rw [List.getElem?_map] at hx
   obtain ⟨n,_,rfl⟩:=Option.map_eq_some_iff.mp hx
   refine ⟨_,rfl,?_⟩
   obtain ⟨w,ew,B⟩:=zRA n
   obtain ⟨many,ps,gate,d',en,N,_,_,_,_⟩:=zRN (most:=24) B (by decide) (by decide) (by decide)
   have hpl:ps.length<10000:=by have:=N.len; omega
   have hbl:(back ps).length<10000:=by have:=N.back.len; omega
   have s1:gAsg (.nm 2) (g2 ixD (zFJ zB0 (zFE zBK [(gVar 1),(gC (.int 0))]) [(gC (.int 24))]) (gC (.int 0))) (lenv sc (.val (.int n)) u2 u3 u4 u5 u6)=.ok (.nx (lenv sc (.val (.int n)) (.val (netD many ps)) u3 u4 u5 u6)) :=
    zA7 (g2_ok (x:=.tup [netD many ps,.int gate]) (zOC (zOD (ds:=[.int n,.int 0]) rfl ew) (args1 (d:=.int 24) rfl) en) (y:=.int 0) rfl rfl) rfl
   have s2:gAsg (.nm 3) (gCall zBU [(gVar 2)]) (lenv sc (.val (.int n)) (.val (netD many ps)) u3 u4 u5 u6)=.ok (.nx (envB sc many ps (.val (.int n)) u4 u5 u6)):=zA7 (zBA (ds:=[netD many ps]) rfl (zHS hpl)) rfl
   have hc:=zHR (gi:=gAnyI (g2 ixD (gVar 2) (gC (.int 1)))) (E:=envB sc many ps (.val (.int n)) u4 u5 u6) (E1:=envB sc many ps (.val (.int n)) u4 u5 u6) (ps:=ps) (zMM (g2_ok (x:=netD many ps) (y:=.int 1) rfl rfl rfl)) hpl
   have t1:gB (g2 neD (gVar 3) (gTup' [(g2 ixD (gVar 2) (gC (.int 0))),(gN tupD [(gN sortD [(gComp (gAnyI (g2 ixD (gVar 2) (gC (.int 1)))) 2 [] (.tp [(.nm 0),(.nm 1)]) gYes (gTup' [(gVar 1),(gVar 0)]))])])])) (envB sc many ps (.val (.int n)) u4 u5 u6)=.ok (false,envB sc many ps (.val (.int n)) u4 u5 u6) :=
    gB_ok (g2_ok (x:=netD many (back ps)) (y:=netD many (back ps)) rfl (zFN (zAL (g2_ok (x:=netD many ps) (y:=.int 0) rfl rfl (d:=.int many) rfl) (args1 (gN_ok (args1 (gN_ok (args1 hc) (zC4 _))) rfl))) (show 2<10000 by decide)) (zD3 (Pl.net _ _)))
   have t2:gNotT (gTru (gCall zCW [(gVar 3)])) (envB sc many ps (.val (.int n)) u4 u5 u6)=.ok (false,envB sc many ps (.val (.int n)) u4 u5 u6) :=
    zCJ (b:=true) (tru_y (zBA (ds:=[netD many (back ps)]) rfl (zTD N.back)) rfl)
   have t3:gB (g2 neD (gCall zBU [(gVar 3)]) (gVar 2)) (envB sc many ps (.val (.int n)) u4 u5 u6)=.ok (false,envB sc many ps (.val (.int n)) u4 u5 u6) :=
    gB_ok (g2_ok (x:=netD many ps) (zBA (ds:=[netD many (back ps)]) rfl (by have:=zHS (many:=many) hbl; rw [zMQ N.pw] at this; exact this)) (y:=netD many ps) rfl (zD3 (Pl.net _ _)))
   obtain ⟨kvs,v5,v6,e5,ht⟩:=b5_ok (sc:=sc) N (u1:=.val (.int n)) (u5:=u5) (u6:=u6)
   obtain ⟨w5,e6⟩:=b6_ok (sc:=sc) N (u1:=.val (.int n)) (u5:=v5) (u6:=v6) ht
   exact ⟨_,zAI s1 (zAI s2 (zAI (if_f (orT_f t1 (orT_f t2 t3)) rfl) (zAI (zCI (d:=.dk []) rfl) (zAI e5 e6)))),_,_,_,_,_,_,rfl⟩)
 refine ⟨false,.non,?_⟩
 rw [← hsc]
 exact fn_rt (zAI e (zBQ (d:=.bl true) rfl)) rfl
end My
namespace My
open PySem L2
theorem len1 {α:Type} {us:List α} (h:us.length=1):∃ a,us=[a]:=List.length_eq_one_iff.mp h
theorem lenS {α:Type} {us:List α} {n:Nat} (h:us.length=n+1):∃ a r,us=a::r∧r.length=n:=by
 cases us with
 | nil=>cases h
 | cons a r=>exact ⟨a,r,rfl,Nat.succ.inj h⟩
theorem len2 {α:Type} {us:List α} (h:us.length=2):∃ a b,us=[a,b]:=by obtain ⟨a,r,rfl,k⟩:=lenS (n:=1) h; obtain ⟨b,rfl⟩:=len1 k; exact ⟨a,b,rfl⟩
theorem len3 {α:Type} {us:List α} (h:us.length=3):∃ a b c,us=[a,b,c]:=by obtain ⟨a,r,rfl,k⟩:=lenS (n:=2) h; obtain ⟨b,c,rfl⟩:=len2 k; exact ⟨a,b,c,rfl⟩
theorem all_mk {l:PySem.W.OpenLaw} {w:World} {K:PySem.W.Frag} {h:Heap} {mg:Str→Option Value} {fa f_is_whole f_turned f_next_places f__law_cell f__law_well f__law_take f__law_reach f_is_place f_lanes_away f__law_shuffled f_is_lane f_reached_past f__law_net f_is_net f_reached f_law:Addr} (X:K.In h) (G:h.Ns mainGlobals mg) (hfa:mg "law"=some (.ref fa))
  {od_is_whole an_is_whole od_turned an_turned od_next_places an_next_places od__law_cell an__law_cell od__law_well an__law_well od__law_take an__law_take od__law_reach an__law_reach od_is_place an_is_place od_lanes_away an_lanes_away od__law_shuffled an__law_shuffled od_is_lane an_is_lane od_reached_past an_reached_past od__law_net an__law_net od_is_net an_is_net od_reached an_reached od_law an_law:Option Addr} {sl_is_whole sl_turned sl_next_places sl__law_cell sl__law_well sl__law_take sl__law_reach sl_is_place sl_lanes_away sl__law_shuffled sl_is_lane sl_reached_past sl__law_net sl_is_net sl_reached sl_law:Array (Option Value)} {oc_is_whole kV_is_whole dc_is_whole pm_is_whole cd_is_whole ct_is_whole oc_turned kV_turned dc_turned pm_turned cd_turned ct_turned oc_next_places kV_next_places dc_next_places pm_next_places cd_next_places ct_next_places oc__law_cell kV__law_cell dc__law_cell pm__law_cell cd__law_cell ct__law_cell oc__law_well kV__law_well dc__law_well pm__law_well cd__law_well ct__law_well oc__law_take kV__law_take dc__law_take pm__law_take cd__law_take ct__law_take oc__law_reach kV__law_reach dc__law_reach pm__law_reach cd__law_reach ct__law_reach oc_is_place kV_is_place dc_is_place pm_is_place cd_is_place ct_is_place oc_lanes_away kV_lanes_away dc_lanes_away pm_lanes_away cd_lanes_away ct_lanes_away oc__law_shuffled kV__law_shuffled dc__law_shuffled pm__law_shuffled cd__law_shuffled ct__law_shuffled oc_is_lane kV_is_lane dc_is_lane pm_is_lane cd_is_lane ct_is_lane oc_reached_past kV_reached_past dc_reached_past pm_reached_past cd_reached_past ct_reached_past oc__law_net kV__law_net dc__law_net pm__law_net cd__law_net ct__law_net oc_is_net kV_is_net dc_is_net pm_is_net cd_is_net ct_is_net oc_reached kV_reached dc_reached pm_reached cd_reached ct_reached oc_law kV_law dc_law pm_law cd_law ct_law:Value} {t_MOST_LANES t_MOST_PLACES:Tok}
  (a_is_whole:PySem.W.nsIn K mainGlobals "is_whole"=some (some (.ref f_is_whole))) (l_is_whole:K.lookup f_is_whole=some ⟨oc_is_whole,od_is_whole,.func (PySem.W.fnOf "is_whole" "is_whole" (zAU zBX) (zAQ zBX) (zAH zBX) .none kV_is_whole dc_is_whole pm_is_whole an_is_whole cd_is_whole ct_is_whole),sl_is_whole⟩) (c_is_whole:PySem.W.codeIn K cd_is_whole "is_whole"=true) (k_is_whole:PySem.W.keepIn K (.ref f_is_whole)=true)
  (a_turned:PySem.W.nsIn K mainGlobals "turned"=some (some (.ref f_turned))) (l_turned:K.lookup f_turned=some ⟨oc_turned,od_turned,.func (PySem.W.fnOf "turned" "turned" (zAU zCU) (zAQ zCU) (zAH zCU) .none kV_turned dc_turned pm_turned an_turned cd_turned ct_turned),sl_turned⟩) (c_turned:PySem.W.codeIn K cd_turned "turned"=true) (k_turned:PySem.W.keepIn K (.ref f_turned)=true)
  (a_next_places:PySem.W.nsIn K mainGlobals "next_places"=some (some (.ref f_next_places))) (l_next_places:K.lookup f_next_places=some ⟨oc_next_places,od_next_places,.func (PySem.W.fnOf "next_places" "next_places" (zAU zAY) (zAQ zAY) (zAH zAY) .none kV_next_places dc_next_places pm_next_places an_next_places cd_next_places ct_next_places),sl_next_places⟩) (c_next_places:PySem.W.codeIn K cd_next_places "next_places"=true) (k_next_places:PySem.W.keepIn K (.ref f_next_places)=true)
  (a__law_cell:PySem.W.nsIn K mainGlobals "_law_cell"=some (some (.ref f__law_cell))) (l__law_cell:K.lookup f__law_cell=some ⟨oc__law_cell,od__law_cell,.func (PySem.W.fnOf "_law_cell" "_law_cell" (zAU zBG) (zAQ zBG) (zAH zBG) .none kV__law_cell dc__law_cell pm__law_cell an__law_cell cd__law_cell ct__law_cell),sl__law_cell⟩) (c__law_cell:PySem.W.codeIn K cd__law_cell "_law_cell"=true) (k__law_cell:PySem.W.keepIn K (.ref f__law_cell)=true)
  (a__law_well:PySem.W.nsIn K mainGlobals "_law_well"=some (some (.ref f__law_well))) (l__law_well:K.lookup f__law_well=some ⟨oc__law_well,od__law_well,.func (PySem.W.fnOf "_law_well" "_law_well" (zAU zBH) (zAQ zBH) (zAH zBH) .none kV__law_well dc__law_well pm__law_well an__law_well cd__law_well ct__law_well),sl__law_well⟩) (c__law_well:PySem.W.codeIn K cd__law_well "_law_well"=true) (k__law_well:PySem.W.keepIn K (.ref f__law_well)=true)
  (a__law_take:PySem.W.nsIn K mainGlobals "_law_take"=some (some (.ref f__law_take))) (l__law_take:K.lookup f__law_take=some ⟨oc__law_take,od__law_take,.func (PySem.W.fnOf "_law_take" "_law_take" (zAU zBI) (zAQ zBI) (zAH zBI) .none kV__law_take dc__law_take pm__law_take an__law_take cd__law_take ct__law_take),sl__law_take⟩) (c__law_take:PySem.W.codeIn K cd__law_take "_law_take"=true) (k__law_take:PySem.W.keepIn K (.ref f__law_take)=true)
  (a__law_reach:PySem.W.nsIn K mainGlobals "_law_reach"=some (some (.ref f__law_reach))) (l__law_reach:K.lookup f__law_reach=some ⟨oc__law_reach,od__law_reach,.func (PySem.W.fnOf "_law_reach" "_law_reach" (zAU zBB) (zAQ zBB) (zAH zBB) .none kV__law_reach dc__law_reach pm__law_reach an__law_reach cd__law_reach ct__law_reach),sl__law_reach⟩) (c__law_reach:PySem.W.codeIn K cd__law_reach "_law_reach"=true) (k__law_reach:PySem.W.keepIn K (.ref f__law_reach)=true)
  (a_is_place:PySem.W.nsIn K mainGlobals "is_place"=some (some (.ref f_is_place))) (l_is_place:K.lookup f_is_place=some ⟨oc_is_place,od_is_place,.func (PySem.W.fnOf "is_place" "is_place" (zAU zBY) (zAQ zBY) (zAH zBY) .none kV_is_place dc_is_place pm_is_place an_is_place cd_is_place ct_is_place),sl_is_place⟩) (c_is_place:PySem.W.codeIn K cd_is_place "is_place"=true) (k_is_place:PySem.W.keepIn K (.ref f_is_place)=true)
  (a_lanes_away:PySem.W.nsIn K mainGlobals "lanes_away"=some (some (.ref f_lanes_away))) (l_lanes_away:K.lookup f_lanes_away=some ⟨oc_lanes_away,od_lanes_away,.func (PySem.W.fnOf "lanes_away" "lanes_away" (zAU zBC) (zAQ zBC) (zAH zBC) .none kV_lanes_away dc_lanes_away pm_lanes_away an_lanes_away cd_lanes_away ct_lanes_away),sl_lanes_away⟩) (c_lanes_away:PySem.W.codeIn K cd_lanes_away "lanes_away"=true) (k_lanes_away:PySem.W.keepIn K (.ref f_lanes_away)=true)
  (a__law_shuffled:PySem.W.nsIn K mainGlobals "_law_shuffled"=some (some (.ref f__law_shuffled))) (l__law_shuffled:K.lookup f__law_shuffled=some ⟨oc__law_shuffled,od__law_shuffled,.func (PySem.W.fnOf "_law_shuffled" "_law_shuffled" (zAU zAX) (zAQ zAX) (zAH zAX) .none kV__law_shuffled dc__law_shuffled pm__law_shuffled an__law_shuffled cd__law_shuffled ct__law_shuffled),sl__law_shuffled⟩) (c__law_shuffled:PySem.W.codeIn K cd__law_shuffled "_law_shuffled"=true) (k__law_shuffled:PySem.W.keepIn K (.ref f__law_shuffled)=true)
  (a_is_lane:PySem.W.nsIn K mainGlobals "is_lane"=some (some (.ref f_is_lane))) (l_is_lane:K.lookup f_is_lane=some ⟨oc_is_lane,od_is_lane,.func (PySem.W.fnOf "is_lane" "is_lane" (zAU zCA) (zAQ zCA) (zAH zCA) .none kV_is_lane dc_is_lane pm_is_lane an_is_lane cd_is_lane ct_is_lane),sl_is_lane⟩) (c_is_lane:PySem.W.codeIn K cd_is_lane "is_lane"=true) (k_is_lane:PySem.W.keepIn K (.ref f_is_lane)=true)
  (a_reached_past:PySem.W.nsIn K mainGlobals "reached_past"=some (some (.ref f_reached_past))) (l_reached_past:K.lookup f_reached_past=some ⟨oc_reached_past,od_reached_past,.func (PySem.W.fnOf "reached_past" "reached_past" (zAU zA0) (zAQ zA0) (zAH zA0) .none kV_reached_past dc_reached_past pm_reached_past an_reached_past cd_reached_past ct_reached_past),sl_reached_past⟩) (c_reached_past:PySem.W.codeIn K cd_reached_past "reached_past"=true) (k_reached_past:PySem.W.keepIn K (.ref f_reached_past)=true)
  (a__law_net:PySem.W.nsIn K mainGlobals "_law_net"=some (some (.ref f__law_net))) (l__law_net:K.lookup f__law_net=some ⟨oc__law_net,od__law_net,.func (PySem.W.fnOf "_law_net" "_law_net" (zAU zBZ) (zAQ zBZ) (zAH zBZ) .none kV__law_net dc__law_net pm__law_net an__law_net cd__law_net ct__law_net),sl__law_net⟩) (c__law_net:PySem.W.codeIn K cd__law_net "_law_net"=true) (k__law_net:PySem.W.keepIn K (.ref f__law_net)=true)
  (a_is_net:PySem.W.nsIn K mainGlobals "is_net"=some (some (.ref f_is_net))) (l_is_net:K.lookup f_is_net=some ⟨oc_is_net,od_is_net,.func (PySem.W.fnOf "is_net" "is_net" (zAU zCV) (zAQ zCV) (zAH zCV) .none kV_is_net dc_is_net pm_is_net an_is_net cd_is_net ct_is_net),sl_is_net⟩) (c_is_net:PySem.W.codeIn K cd_is_net "is_net"=true) (k_is_net:PySem.W.keepIn K (.ref f_is_net)=true)
  (a_reached:PySem.W.nsIn K mainGlobals "reached"=some (some (.ref f_reached))) (l_reached:K.lookup f_reached=some ⟨oc_reached,od_reached,.func (PySem.W.fnOf "reached" "reached" (zAU zCB) (zAQ zCB) (zAH zCB) .none kV_reached dc_reached pm_reached an_reached cd_reached ct_reached),sl_reached⟩) (c_reached:PySem.W.codeIn K cd_reached "reached"=true) (k_reached:PySem.W.keepIn K (.ref f_reached)=true)
  (a_law:PySem.W.nsIn K mainGlobals "law"=some (some (.ref f_law))) (l_law:K.lookup f_law=some ⟨oc_law,od_law,.func (PySem.W.fnOf "law" "law" (zAU s_law) (zAQ s_law) (zAH s_law) .none kV_law dc_law pm_law an_law cd_law ct_law),sl_law⟩) (c_law:PySem.W.codeIn K cd_law "law"=true) (k_law:PySem.W.keepIn K (.ref f_law)=true)
  (v_MOST_LANES:PySem.W.nsIn K mainGlobals "MOST_LANES"=some (some (.int 120 t_MOST_LANES)))
  (v_MOST_PLACES:PySem.W.nsIn K mainGlobals "MOST_PLACES"=some (some (.int 24 t_MOST_PLACES)))
  (z_all:PySem.W.nsIn K mainGlobals "all"=some none) (z_bool:PySem.W.nsIn K mainGlobals "bool"=some none) (z_enumerate:PySem.W.nsIn K mainGlobals "enumerate"=some none) (z_int:PySem.W.nsIn K mainGlobals "int"=some none) (z_isinstance:PySem.W.nsIn K mainGlobals "isinstance"=some none) (z_len:PySem.W.nsIn K mainGlobals "len"=some none) (z_list:PySem.W.nsIn K mainGlobals "list"=some none) (z_min:PySem.W.nsIn K mainGlobals "min"=some none) (z_range:PySem.W.nsIn K mainGlobals "range"=some none) (z_sorted:PySem.W.nsIn K mainGlobals "sorted"=some none) (z_tuple:PySem.W.nsIn K mainGlobals "tuple"=some none) (z_zip:PySem.W.nsIn K mainGlobals "zip"=some none) :
  ∃ fd:FuncData,(∀ (s:Shared) (v:Value),BindsTo s fd ⟨[v],[]⟩ [("script",v)])∧∀ base:Heap,K.In base→base.Ns mainGlobals mg→FnOk l.prog w K mg base CX0 5 fa fd ["script"] (spV K 1 m_law):=by
 have e:=hfa.symm.trans (PySem.W.mg_of X G a_law)
 cases e
 have T:Bt mg:=⟨PySem.W.mg_none_of X G z_all,PySem.W.mg_none_of X G z_bool,PySem.W.mg_none_of X G z_enumerate,PySem.W.mg_none_of X G z_int,PySem.W.mg_none_of X G z_isinstance,PySem.W.mg_none_of X G z_len,PySem.W.mg_none_of X G z_list,PySem.W.mg_none_of X G z_min,PySem.W.mg_none_of X G z_range,PySem.W.mg_none_of X G z_sorted,PySem.W.mg_none_of X G z_tuple,PySem.W.mg_none_of X G z_zip,⟨_,PySem.W.mg_of X G v_MOST_LANES⟩,⟨_,PySem.W.mg_of X G v_MOST_PLACES⟩⟩
 have F_is_whole:=zBR (st:=zBX) l_is_whole c_is_whole k_is_whole
 have F_turned:=zBR (st:=zCU) l_turned c_turned k_turned
 have F_next_places:=zBR (st:=zAY) l_next_places c_next_places k_next_places
 have F__law_cell:=zBR (st:=zBG) l__law_cell c__law_cell k__law_cell
 have F__law_well:=zBR (st:=zBH) l__law_well c__law_well k__law_well
 have F__law_take:=zBR (st:=zBI) l__law_take c__law_take k__law_take
 have F__law_reach:=zBR (st:=zBB) l__law_reach c__law_reach k__law_reach
 have F_is_place:=zBR (st:=zBY) l_is_place c_is_place k_is_place
 have F_lanes_away:=zBR (st:=zBC) l_lanes_away c_lanes_away k_lanes_away
 have F__law_shuffled:=zBR (st:=zAX) l__law_shuffled c__law_shuffled k__law_shuffled
 have F_is_lane:=zBR (st:=zCA) l_is_lane c_is_lane k_is_lane
 have F_reached_past:=zBR (st:=zA0) l_reached_past c_reached_past k_reached_past
 have F__law_net:=zBR (st:=zBZ) l__law_net c__law_net k__law_net
 have F_is_net:=zBR (st:=zCV) l_is_net c_is_net k_is_net
 have F_reached:=zBR (st:=zCB) l_reached c_reached k_reached
 have F_law:=zBR (st:=s_law) l_law c_law k_law
 have b_is_whole:=F_is_whole.binds (ps:=["thing"]) fun _ _ _ _ _ _ us hl=>by
  obtain ⟨a0,rfl⟩:=len1 hl
  rfl
 have b_turned:=F_turned.binds (ps:=["net"]) fun _ _ _ _ _ _ us hl=>by
  obtain ⟨a0,rfl⟩:=len1 hl
  rfl
 have b_next_places:=F_next_places.binds (ps:=["net"]) fun _ _ _ _ _ _ us hl=>by
  obtain ⟨a0,rfl⟩:=len1 hl
  rfl
 have b__law_cell:=F__law_cell.binds (ps:=["script","k"]) fun _ _ _ _ _ _ us hl=>by
  obtain ⟨a0,a1,rfl⟩:=len2 hl
  rfl
 have b__law_well:=F__law_well.binds (ps:=["cell","turn"]) fun _ _ _ _ _ _ us hl=>by
  obtain ⟨a0,a1,rfl⟩:=len2 hl
  rfl
 have b__law_take:=F__law_take.binds (ps:=["bag","many"]) fun _ _ _ _ _ _ us hl=>by
  obtain ⟨a0,a1,rfl⟩:=len2 hl
  rfl
 have b__law_reach:=F__law_reach.binds (ps:=["net","gate","closed"]) fun _ _ _ _ _ _ us hl=>by
  obtain ⟨a0,a1,a2,rfl⟩:=len3 hl
  rfl
 have b_is_place:=F_is_place.binds (ps:=["many","thing"]) fun _ _ _ _ _ _ us hl=>by
  obtain ⟨a0,a1,rfl⟩:=len2 hl
  rfl
 have b_lanes_away:=F_lanes_away.binds (ps:=["net","start","closed"]) fun _ _ _ _ _ _ us hl=>by
  obtain ⟨a0,a1,a2,rfl⟩:=len3 hl
  rfl
 have b__law_shuffled:=F__law_shuffled.binds (ps:=["bag","some"]) fun _ _ _ _ _ _ us hl=>by
  obtain ⟨a0,a1,rfl⟩:=len2 hl
  rfl
 have b_is_lane:=F_is_lane.binds (ps:=["many","thing"]) fun _ _ _ _ _ _ us hl=>by
  obtain ⟨a0,a1,rfl⟩:=len2 hl
  rfl
 have b_reached_past:=F_reached_past.binds (ps:=["net","gate","closed"]) fun _ _ _ _ _ _ us hl=>by
  obtain ⟨a0,a1,a2,rfl⟩:=len3 hl
  rfl
 have b__law_net:=F__law_net.binds (ps:=["bag","most"]) fun _ _ _ _ _ _ us hl=>by
  obtain ⟨a0,a1,rfl⟩:=len2 hl
  rfl
 have b_is_net:=F_is_net.binds (ps:=["thing"]) fun _ _ _ _ _ _ us hl=>by
  obtain ⟨a0,rfl⟩:=len1 hl
  rfl
 have b_reached:=F_reached.binds (ps:=["net","gate"]) fun _ _ _ _ _ _ us hl=>by
  obtain ⟨a0,a1,rfl⟩:=len2 hl
  rfl
 refine ⟨PySem.W.fnOf "law" "law" (zAU s_law) (zAQ s_law) (zAH s_law) .none kV_law dc_law pm_law an_law cd_law ct_law,fun s v=>.of_eq rfl,fun base _ _=>?_⟩
 have q_is_whole:=Fun.cal F_is_whole (zIN (P:=l.prog) (w:=w) (base:=base) F_is_whole T ) (PySem.W.mg_of X G a_is_whole) b_is_whole
 have q_turned:=Fun.cal F_turned (zMF (P:=l.prog) (w:=w) (base:=base) F_turned T ) (PySem.W.mg_of X G a_turned) b_turned
 have q_next_places:=Fun.cal F_next_places (zE0 (P:=l.prog) (w:=w) (base:=base) F_next_places T ) (PySem.W.mg_of X G a_next_places) b_next_places
 have q__law_cell:=Fun.cal F__law_cell (zHM (P:=l.prog) (w:=w) (base:=base) F__law_cell T ) (PySem.W.mg_of X G a__law_cell) b__law_cell
 have q__law_well:=Fun.cal F__law_well (zHN (P:=l.prog) (w:=w) (base:=base) F__law_well T ) (PySem.W.mg_of X G a__law_well) b__law_well
 have q__law_take:=Fun.cal F__law_take (zHO (P:=l.prog) (w:=w) (base:=base) F__law_take T ) (PySem.W.mg_of X G a__law_take) b__law_take
 have q__law_reach:=Fun.cal F__law_reach (zGG (P:=l.prog) (w:=w) (base:=base) F__law_reach T ) (PySem.W.mg_of X G a__law_reach) b__law_reach
 have q_is_place:=Fun.cal F_is_place (zIQ (P:=l.prog) (w:=w) (base:=base) F_is_place T q_is_whole) (PySem.W.mg_of X G a_is_place) b_is_place
 have q_lanes_away:=Fun.cal F_lanes_away (zGH (P:=l.prog) (w:=w) (base:=base) F_lanes_away T q_next_places) (PySem.W.mg_of X G a_lanes_away) b_lanes_away
 have q__law_shuffled:=Fun.cal F__law_shuffled (zDZ (P:=l.prog) (w:=w) (base:=base) F__law_shuffled T q__law_take) (PySem.W.mg_of X G a__law_shuffled) b__law_shuffled
 have q_is_lane:=Fun.cal F_is_lane (zKI (P:=l.prog) (w:=w) (base:=base) F_is_lane T q_is_place) (PySem.W.mg_of X G a_is_lane) b_is_lane
 have q_reached_past:=Fun.cal F_reached_past (zER (P:=l.prog) (w:=w) (base:=base) F_reached_past T q_lanes_away) (PySem.W.mg_of X G a_reached_past) b_reached_past
 have q__law_net:=Fun.cal F__law_net (zIR (P:=l.prog) (w:=w) (base:=base) F__law_net T q__law_take q__law_shuffled) (PySem.W.mg_of X G a__law_net) b__law_net
 have q_is_net:=Fun.cal F_is_net (zMG (P:=l.prog) (w:=w) (base:=base) F_is_net T q_is_whole q_is_lane) (PySem.W.mg_of X G a_is_net) b_is_net
 have q_reached:=Fun.cal F_reached (zKJ (P:=l.prog) (w:=w) (base:=base) F_reached T q_reached_past) (PySem.W.mg_of X G a_reached) b_reached
 exact zS7 F_law T q_turned q__law_cell q__law_net q_reached q__law_well q_is_net q__law_reach
end My
open PySem PySem.W PyProof.Rows
set_option maxRecDepth 100000 in
set_option maxHeartbeats 0 in
theorem PySem.Challenge.cw_waymusts_k04_reached_and_turned_holds : PySem.Challenge.rw_waymusts_k04_reached_and_turned.Holds := by
 w_on; o_law; k_head; (case hw=>w_witness2)
 k_fill
 refine L2.walk_v (l:=PySem.Challenge.rw_waymusts_k04_reached_and_turned) (m:=My.m_law) (lv:=5) rfl rfl ⟨rfl,by decide,by decide⟩ (fun w h Y=>PySem.W.kIn_of Y) My.law_true ?F
 case F =>
  intro w mg fa h KX G hmg
  refine' My.all_mk KX G hmg ?a_is_whole ?l_is_whole ?c_is_whole ?k_is_whole ?a_turned ?l_turned ?c_turned ?k_turned ?a_next_places ?l_next_places ?c_next_places ?k_next_places ?a__law_cell ?l__law_cell ?c__law_cell ?k__law_cell ?a__law_well ?l__law_well ?c__law_well ?k__law_well ?a__law_take ?l__law_take ?c__law_take ?k__law_take ?a__law_reach ?l__law_reach ?c__law_reach ?k__law_reach ?a_is_place ?l_is_place ?c_is_place ?k_is_place ?a_lanes_away ?l_lanes_away ?c_lanes_away ?k_lanes_away ?a__law_shuffled ?l__law_shuffled ?c__law_shuffled ?k__law_shuffled ?a_is_lane ?l_is_lane ?c_is_lane ?k_is_lane ?a_reached_past ?l_reached_past ?c_reached_past ?k_reached_past ?a__law_net ?l__law_net ?c__law_net ?k__law_net ?a_is_net ?l_is_net ?c_is_net ?k_is_net ?a_reached ?l_reached ?c_reached ?k_reached ?a_law ?l_law ?c_law ?k_law ?v_MOST_LANES ?v_MOST_PLACES ?z_all ?z_bool ?z_enumerate ?z_int ?z_isinstance ?z_len ?z_list ?z_min ?z_range ?z_sorted ?z_tuple ?z_zip
  (case a_is_whole=>k_is); (case l_is_whole=>k_is); (case c_is_whole=>k_is); (case k_is_whole=>k_is)
  (case a_turned=>k_is); (case l_turned=>k_is); (case c_turned=>k_is); (case k_turned=>k_is)
  (case a_next_places=>k_is); (case l_next_places=>k_is); (case c_next_places=>k_is); (case k_next_places=>k_is)
  (case a__law_cell=>k_is); (case l__law_cell=>k_is); (case c__law_cell=>k_is); (case k__law_cell=>k_is)
  (case a__law_well=>k_is); (case l__law_well=>k_is); (case c__law_well=>k_is); (case k__law_well=>k_is)
  (case a__law_take=>k_is); (case l__law_take=>k_is); (case c__law_take=>k_is); (case k__law_take=>k_is)
  (case a__law_reach=>k_is); (case l__law_reach=>k_is); (case c__law_reach=>k_is); (case k__law_reach=>k_is)
  (case a_is_place=>k_is); (case l_is_place=>k_is); (case c_is_place=>k_is); (case k_is_place=>k_is)
  (case a_lanes_away=>k_is); (case l_lanes_away=>k_is); (case c_lanes_away=>k_is); (case k_lanes_away=>k_is)
  (case a__law_shuffled=>k_is); (case l__law_shuffled=>k_is); (case c__law_shuffled=>k_is); (case k__law_shuffled=>k_is)
  (case a_is_lane=>k_is); (case l_is_lane=>k_is); (case c_is_lane=>k_is); (case k_is_lane=>k_is)
  (case a_reached_past=>k_is); (case l_reached_past=>k_is); (case c_reached_past=>k_is); (case k_reached_past=>k_is)
  (case a__law_net=>k_is); (case l__law_net=>k_is); (case c__law_net=>k_is); (case k__law_net=>k_is)
  (case a_is_net=>k_is); (case l_is_net=>k_is); (case c_is_net=>k_is); (case k_is_net=>k_is)
  (case a_reached=>k_is); (case l_reached=>k_is); (case c_reached=>k_is); (case k_reached=>k_is)
  (case a_law=>k_is); (case l_law=>k_is); (case c_law=>k_is); (case k_law=>k_is)
  (case v_MOST_LANES=>k_is); (case v_MOST_PLACES=>k_is); (case z_all=>k_is); (case z_bool=>k_is)
  (case z_enumerate=>k_is); (case z_int=>k_is); (case z_isinstance=>k_is); (case z_len=>k_is)
  (case z_list=>k_is); (case z_min=>k_is); (case z_range=>k_is); (case z_sorted=>k_is)
  (case z_tuple=>k_is); (case z_zip=>k_is)
