import PyProof.Rows.All
import Wide.All
import OpenK.AllK
import Wide.FinOn
import PyProof.EqAt
import PyProof.EqKinds
import PyProof.TupleCall
import KE.BitLaws
import Open.SpecLaws
import KE.OsHead
import KE.OsGo
import PySem.Challenge.RW_wordworths_s01_answers
set_option Elab.async false
set_option linter.all false
set_option maxRecDepth 100000
set_option maxHeartbeats 2000000
set_option genSizeOf false
namespace L2
open PySem PySem.Spec PyProof.Rows
noncomputable abbrev Key:=Sum Int Str
noncomputable def keyIs:Key → Value → Bool
 | .inl k,v=>Value.isInt k v
 | .inr x,v=>Value.isStrOf x v
noncomputable def keyH (w:World):Key → Int
 | .inl k=>hashInt k
 | .inr x=>hashStr w x
theorem keyIs_shape:∀ {k:Key} {v:Value},keyIs k v = true → (∃ i t,k = Sum.inl i ∧ v = Value.int i t) ∨ (∃ x t,k = Sum.inr x ∧ v = Value.str x t)
 | .inl i,v,h=>by
  obtain ⟨t,e⟩:=Value.isInt_shape (k:=i) (v:=v) h
  exact .inl ⟨i,t,rfl,e⟩
 | .inr x,v,h=>by
  obtain ⟨t,e⟩:=Value.isStrOf_shape (x:=x) (v:=v) h
  exact .inr ⟨x,t,rfl,e⟩
theorem key_ll (a b:Int):decide ((Sum.inl a:Key) = Sum.inl b) = (a == b):=by
 by_cases e:a = b
 ·subst e; simp
 ·have h:¬ (Sum.inl a:Key) = Sum.inl b:=fun q=>e (Sum.inl.inj q)
  rw [decide_eq_false h]
  exact (beq_eq_false_iff_ne.mpr e).symm
theorem key_rr (a b:Str):decide ((Sum.inr a:Key) = Sum.inr b) = decide (a = b):=by
 by_cases e:a = b
 ·subst e; simp
 ·have h:¬ (Sum.inr a:Key) = Sum.inr b:=fun q=>e (Sum.inr.inj q)
  rw [decide_eq_false h,decide_eq_false e]
theorem key_lr (a:Int) (b:Str):decide ((Sum.inl a:Key) = Sum.inr b) = false:=decide_eq_false (fun q=>nomatch q)
theorem key_rl (a:Str) (b:Int):decide ((Sum.inr a:Key) = Sum.inl b) = false:=decide_eq_false (fun q=>nomatch q)
noncomputable def mixKind (prog:Program) (w:World):PySem.KeyKind prog w Key where
 is:=keyIs
 hash:=keyH w
 inj:=fun v a b ha hb=>by
  rcases keyIs_shape ha with ⟨i,t,rfl,rfl⟩ | ⟨x,t,rfl,rfl⟩
  ·rcases keyIs_shape hb with ⟨j,u,rfl,e⟩ | ⟨y,u,rfl,e⟩
   ·injection e with e1 _; rw [e1]
   ·exact nomatch e
  ·rcases keyIs_shape hb with ⟨j,u,rfl,e⟩ | ⟨y,u,rfl,e⟩
   ·exact nomatch e
   ·injection e with e1 _; rw [e1]
 byValue:=fun k v h=>by
  rcases keyIs_shape h with ⟨i,t,rfl,rfl⟩ | ⟨x,t,rfl,rfl⟩ <;> rfl
 pyHash:=fun hv h=>by
  rcases keyIs_shape hv with ⟨i,t,rfl,rfl⟩ | ⟨x,t,rfl,rfl⟩
  ·exact wpAny_pyHash_int h
  ·exact wpAny_pyHash_str h
 eqBool:=fun hu hv h=>by
  rcases keyIs_shape hu with ⟨i,t,rfl,rfl⟩ | ⟨x,t,rfl,rfl⟩
  ·rcases keyIs_shape hv with ⟨j,u,rfl,rfl⟩ | ⟨y,u,rfl,rfl⟩
   ·rw [key_ll] at h; exact wpAny_eqBool_int h
   ·rw [key_lr] at h; exact SeqAt.EqAt.int_str i t y u _ _ _ _ h
  ·rcases keyIs_shape hv with ⟨j,u,rfl,rfl⟩ | ⟨y,u,rfl,rfl⟩
   ·rw [key_rl] at h; exact SeqAt.EqAt.str_int x t j u _ _ _ _ h
   ·rw [key_rr] at h; exact wpAny_eqBool_str h
 «strs»:=fun k x t v h=>by
  rcases keyIs_shape h with ⟨i,u,rfl,e⟩ | ⟨y,u,rfl,e⟩
  ·exact nomatch e
  ·injection e with e1 _
   subst e1
   cases v <;> rfl
end L2
namespace L2
open PySem PySem.Spec PyProof.Rows
inductive V where
 | non | bl (b:Bool) | int (i:Int) | str (x:Str) | byt (b:Array UInt8) | flt (b:UInt64) | ref (a:Addr) | ty (n:String)
 deriving DecidableEq
noncomputable def RelV:V → Value → Prop
 | .non,u=>u = Value.none
 | .bl b,u=>u = Value.bool b
 | .int i,u=>∃ t,u = Value.int i t
 | .str x,u=>∃ t,u = Value.str x t
 | .byt b,u=>∃ t,u = Value.bytes b t
 | .flt b,u=>∃ t,u = Value.float b t
 | .ref a,u=>u = Value.ref a
 | .ty n,u=>u = Value.type n
noncomputable abbrev Vals:List V → List Value → Prop:=Paired RelV
theorem Vals.length {xs:List V} {us:List Value} (r:Vals xs us):xs.length = us.length:=Paired.length r
theorem Vals.get:∀ {xs:List V} {us:List Value} {i:Nat} {x:V},Vals xs us → xs[i]? = some x → ∃ u,us[i]? = some u ∧ RelV x u
 | _,_,_,_,.nil,e=>by simp at e
 | _,_,0,_,.cons r _,e=>by simp at e; subst e; exact ⟨_,rfl,r⟩
 | _,_,i + 1,x,.cons _ t,e=>by
  obtain ⟨u,h1,h2⟩:=Vals.get (i:=i) (x:=x) t (by simpa using e)
  exact ⟨u,by simpa using h1,h2⟩
theorem Vals.set {x:V} {u:Value} (r:RelV x u):∀ {xs:List V} {us:List Value} (i:Nat),Vals xs us → Vals (xs.set i x) (us.set i u)
 | _,_,_,.nil=>.nil
 | _,_,0,.cons _ t=>.cons r t
 | _,_,i + 1,.cons q t=>.cons q (Vals.set r i t)
theorem Vals.append:∀ {xs ys:List V} {us ws:List Value},Vals xs us → Vals ys ws → Vals (xs ++ ys) (us ++ ws)
 | _,_,_,_,.nil,s=>s
 | _,_,_,_,.cons r t,s=>.cons r (Vals.append t s)
theorem Vals.take:∀ {xs:List V} {us:List Value} (n:Nat),Vals xs us → Vals (xs.take n) (us.take n)
 | _,_,0,_=>.nil
 | _,_,_ + 1,.nil=>.nil
 | _,_,n + 1,.cons r t=>.cons r (Vals.take n t)
theorem Vals.drop:∀ {xs:List V} {us:List Value} (n:Nat),Vals xs us → Vals (xs.drop n) (us.drop n)
 | _,_,0,r=>r
 | _,_,_ + 1,.nil=>.nil
 | _,_,n + 1,.cons _ t=>Vals.drop n t
noncomputable def RelO:Option V → Option Value → Prop
 | some v,some u=>RelV v u
 | none,none=>True
 | _,_=>False
noncomputable def KV {κ:Type}:List (κ × V) → List (κ × Value) → Prop:=Paired fun (p:κ × V) (q:κ × Value)=>p.1 = q.1 ∧ RelV p.2 q.2
noncomputable def kV:Key → V
 | .inl i=>.int i
 | .inr x=>.str x
inductive HO where
 /-- a list -/
 | lst (xs:List V)
 /-- a tuple (never changes) -/
 | tup (xs:List V)
 /-- a dict whose keys are ints and texts; one whose keys are tuples of ints and texts (the empty one is both) -/
 | dK (kvs:List (Key × V)) | dT (kvs:List (List Key × V))
 /-- a set of ints: its members,its size -/
 | set (S:Int → Bool) (n:Nat)
 /-- an instance of the class at C,its dict at dx,its attributes -/
 | ins (C dx:Addr) (fs:List (Str × V))
 /-- the dict of the instance at x -/
 | own (x:Addr)
 /-- the dict of an exception -/
 | xd (fs:List (Str × V))
 /-- a bound method,f of x -/
 | met (f x:Addr)
 /-- a range object lo,lo + 1,.. below hi -/
 | rng (lo hi:Int)
 /-- a thing that is known to the object (the script; a dict while a loop walks it): read,never written while it is so -/
 | frz (o:Obj) (u:HO)
 /-- a code object's table -/
 | tbl (ps:Array Value)
 /-- any other thing,by what is true of its one object (a def of one's own: SetO a S n:=HO.ext fun h=>..) -/
 | ext (φ:Heap → Prop)
noncomputable abbrev Hp:=Addr → Option HO
noncomputable def upd (H:Hp) (a:Addr) (o:HO):Hp:=fun b=>if b = a then some o else H b
theorem upd_same {H:Hp} {a:Addr} {o:HO}:upd H a o a = some o:=by unfold upd; rw [if_pos rfl]
theorem upd_ne {H:Hp} {a b:Addr} {o:HO} (h:b ≠ a):upd H a o b = H b:=by unfold upd; rw [if_neg h]
theorem upd_upd {H:Hp} {a:Addr} {o u:HO}:upd (upd H a o) a u = upd H a u:=by
 funext b; unfold upd; split <;> rfl
theorem ne_of {H:Hp} {a b:Addr} {o u:HO} (h:H a = some o) (h':H b = some u) (d:o ≠ u):a ≠ b:=by
 intro e; subst e; rw [h] at h'; exact d (Option.some.inj h')
theorem ne_of_none {H:Hp} {a b:Addr} {o:HO} (h:H a = some o) (h':H b = none):a ≠ b:=by
 intro e; subst e; rw [h] at h'; cases h'
section
variable (P:Program) (w:World)
noncomputable def ObjOk (H:Hp) (h:Heap) (a:Addr):HO → Prop
 | .lst xs=>xs.length ≤ sizeLine ∧ ∃ (its:List Value) (n:Nat),Vals xs its ∧ h.get? a = some { cls:=.type "list",data:=.seq its.toArray n }
 | .tup xs=>xs.length ≤ sizeLine ∧ ∃ its:List Value,Vals xs its ∧ IsTup h a its.toArray
 | .dK kvs=>kvs.length ≤ sizeLine ∧ (a == sysModules) = false ∧ ∃ vs,KV kvs vs ∧ h.DictOf (mixKind P w) a vs
 | .dT kvs=>kvs.length ≤ sizeLine ∧ (a == sysModules) = false ∧ ∃ xs:List (List Key × Addr × Value),
   Paired (fun (p:List Key × V) (q:List Key × Addr × Value)=>p.1 = q.1 ∧ H q.2.1 = some (.tup (p.1.map kV)) ∧ RelV p.2 q.2.2) kvs xs ∧
   ∃ o es ep,h.get? a = some o ∧ o.ExactDict ∧ o.data = .dict es ep ∧ es.toList = xs.map (entryOfKey (tupleKind (mixKind P w))) ∧ (xs.map (·.1)).Nodup
 | .set S n=>h.SetOf (intKind P w) a S n
 | .ins C dx fs=>H dx = some (.own a) ∧ fs.length ≤ 1000 ∧ dx ≠ a ∧ h.get? a = some (PySem.W.instObj C dx) ∧
   ∃ mA,h.Ns1 dx mA ∧ (∀ f,RelO (fs.lookup f) (mA f)) ∧ PySem.Within mA (fs.map (·.1))
 | .own _=>∃ o,h.get? a = some o
 | .xd fs=>∃ mA,h.Ns1 a mA ∧ ∀ f,RelO (fs.lookup f) (mA f)
 | .rng lo hi=>∃ t u v,h.get? a = some { cls:=.type "range",data:=.fields #[.int lo t,.int hi u,.int 1 v] }
 | .frz o u=>h.get? a = some o ∧ ObjOk H h a u
 | .tbl ps=>h.get? a = some { cls:=.none,data:=.fields ps }
 | .met f x=>h.get? a = some (PySem.W.methodObj (.ref f) (.ref x))
 | .ext φ=>φ h ∧ (∃ o,h.get? a = some o) ∧ ∀ h1 h2:Heap,φ h1 → (∀ o,h1.get? a = some o → h2.get? a = some o) → φ h2
noncomputable def HOk (H:Hp) (h:Heap):Prop:=∀ a o,H a = some o → ObjOk P w H h a o
end
section
variable {P:Program} {w:World} {H H':Hp} {h h':Heap} {a:Addr} {o:HO}
theorem ObjOk.lt (x:ObjOk P w H h a o):a < h.objs.size:=by
 cases o with
 | lst xs=>obtain ⟨_,_,_,_,e⟩:=x; exact Heap.lt_size e
 | tup xs=>obtain ⟨_,_,_,p⟩:=x; exact p.lt
 | dK kvs=>obtain ⟨_,_,_,_,o,_,_,e,_⟩:=x; exact Heap.lt_size e
 | dT kvs=>obtain ⟨_,_,_,_,o,_,_,e,_⟩:=x; exact Heap.lt_size e
 | set S n=>obtain ⟨o,_,_,_,e,_⟩:=x; exact Heap.lt_size e
 | ins C dx fs=>obtain ⟨_,_,_,e,_⟩:=x; exact Heap.lt_size e
 | own y=>obtain ⟨_,e⟩:=x; exact Heap.lt_size e
 | xd fs=>obtain ⟨_,⟨_,_,_,e,_⟩,_⟩:=x; exact Heap.lt_size e
 | rng lo hi=>obtain ⟨_,_,_,e⟩:=x; exact Heap.lt_size e
 | frz ob u=>obtain ⟨e,_⟩:=x; exact Heap.lt_size e
 | tbl ps=>exact Heap.lt_size (show h.get? a = some _ from x)
 | met f y=>exact Heap.lt_size (show h.get? a = some _ from x)
 | ext φ=>obtain ⟨_,⟨_,e⟩,_⟩:=x; exact Heap.lt_size e
theorem Paired.mapP {α β:Type} {F G:α → β → Prop}:∀ {l₁:List α} {l₂:List β},Paired F l₁ l₂ → (∀ a b,F a b → G a b) → Paired G l₁ l₂
 | _,_,.nil,_=>.nil
 | _,_,.cons r t,f=>.cons (f _ _ r) (Paired.mapP t f)
theorem ObjOk.stay (x:ObjOk P w H h a o) (k:∀ b u,(b = a ∨ H b = some (.own a)) → h.get? b = some u → h'.get? b = some u)
  (ho:∀ b,H b = some (.own a) → H' b = some (.own a)) (ht:∀ b xs,H b = some (.tup xs) → H' b = some (.tup xs)):ObjOk P w H' h' a o:=by
 induction o with
 | lst xs=>obtain ⟨z,its,n,r,e⟩:=x; exact ⟨z,its,n,r,k _ _ (.inl rfl) e⟩
 | tup xs=>obtain ⟨z,its,r,ob,e,c⟩:=x; exact ⟨z,its,r,ob,k _ _ (.inl rfl) e,c⟩
 | dK kvs=>obtain ⟨z,y,vs,r,ob,es,ep,e,c⟩:=x; exact ⟨z,y,vs,r,ob,es,ep,k _ _ (.inl rfl) e,c⟩
 | dT kvs =>
  obtain ⟨z,y,xs,r,ob,es,ep,e,c⟩:=x
  exact ⟨z,y,xs,Paired.mapP r fun p q z=>⟨z.1,ht _ _ z.2.1,z.2.2⟩,ob,es,ep,k _ _ (.inl rfl) e,c⟩
 | set S n=>obtain ⟨ob,es,ep,t,e,c⟩:=x; exact ⟨ob,es,ep,t,k _ _ (.inl rfl) e,c⟩
 | ins C dx fs =>
  obtain ⟨d,z,ne,e,mA,⟨od,es,ep,e2,c⟩,r⟩:=x
  exact ⟨ho _ d,z,ne,k _ _ (.inl rfl) e,mA,⟨od,es,ep,k _ _ (.inr d) e2,c⟩,r⟩
 | own y=>obtain ⟨ob,e⟩:=x; exact ⟨ob,k _ _ (.inl rfl) e⟩
 | xd fs=>obtain ⟨mA,⟨od,es,ep,e,c⟩,r⟩:=x; exact ⟨mA,⟨od,es,ep,k _ _ (.inl rfl) e,c⟩,r⟩
 | rng lo hi=>obtain ⟨t,u,v,e⟩:=x; exact ⟨t,u,v,k _ _ (.inl rfl) e⟩
 | frz ob u ih=>obtain ⟨e,q⟩:=x; exact ⟨k _ _ (.inl rfl) e,ih q⟩
 | tbl ps =>
  have e:h.get? a = some { cls:=.none,data:=.fields ps }:=x
  show h'.get? a = some { cls:=.none,data:=.fields ps }
  exact k a _ (.inl rfl) e
 | met f y =>
  have e:h.get? a = some (PySem.W.methodObj (.ref f) (.ref y)):=x
  show h'.get? a = some (PySem.W.methodObj (.ref f) (.ref y))
  exact k a _ (.inl rfl) e
 | ext φ=>obtain ⟨p,⟨o,e⟩,st⟩:=x; exact ⟨st _ _ p fun o q=>k _ _ (.inl rfl) q,⟨o,k _ _ (.inl rfl) e⟩,st⟩
theorem HOk.lt (x:HOk P w H h) (e:H a = some o):a < h.objs.size:=(x a o e).lt
theorem HOk.fresh (x:HOk P w H h) (e:h.objs.size ≤ a):H a = none:=by
 cases q:H a with
 | none=>rfl
 | some u=>exact absurd (Nat.lt_of_lt_of_le (x.lt q) e) (Nat.lt_irrefl _)
theorem HOk.kept (x:HOk P w H h) (k:∀ b u,h.get? b = some u → h'.get? b = some u):HOk P w H h':=fun a o e =>
 (x a o e).stay (fun b u _ q=>k b u q) (fun _ q=>q) fun _ _ q=>q
theorem HOk.laid (x:HOk P w H h) (k:∀ b u,h.get? b = some u → h'.get? b = some u) (hp:h.objs.size ≤ a) (new:ObjOk P w (upd H a o) h' a o):HOk P w (upd H a o) h':=fun b u e=>by
 have hn:=x.fresh hp
 by_cases hb:b = a
 ·subst hb; rw [upd_same] at e; cases e; exact new
 ·rw [upd_ne hb] at e
  exact (x b u e).stay (fun c v _ q=>k c v q) (fun c q=>by rw [upd_ne (ne_of_none q hn)]; exact q) fun c xs q=>by rw [upd_ne (ne_of_none q hn)]; exact q
end
noncomputable def Rd (H:Hp) (a:Addr) (u:HO):Prop:=H a = some u ∨ ∃ o,H a = some (.frz o u)
theorem Rd.ok {P:Program} {w:World} {H:Hp} {h:Heap} {a:Addr} {u:HO} (r:Rd H a u) (x:HOk P w H h):ObjOk P w H h a u:=by
 rcases r with r | ⟨o,r⟩
 ·exact x a u r
 ·obtain ⟨_,q⟩:=x a _ r
  exact q
noncomputable def Mut:Option HO → Prop
 | some (.lst _)=>True
 | some (.dK _)=>True
 | some (.dT _)=>True
 | some (.set _ _)=>True
 | some (.ins _ _ _)=>True
 | some (.ext _)=>True
 | _=>False
section
variable {P:Program} {w:World} {H:Hp} {h h':Heap} {x e:Addr} {o':HO}
theorem HOk.write (ok:HOk P w H h) (mu:Mut (H x)) (he:e = x ∨ H e = some (.own x)) (k:∀ b u,b ≠ e → h.get? b = some u → h'.get? b = some u) (heo:∃ u,h'.get? e = some u)
  (new:ObjOk P w (upd H x o') h' x o'):HOk P w (upd H x o') h':=fun b u q=>by
 have nown:∀ c y,H c = some (.own y) → c ≠ x:=fun c y r z=>by subst z; rw [r] at mu; exact mu
 have ntup:∀ c xs,H c = some (.tup xs) → c ≠ x:=fun c xs r z=>by subst z; rw [r] at mu; exact mu
 by_cases hb:b = x
 ·subst hb; rw [upd_same] at q; cases q; exact new
 ·rw [upd_ne hb] at q
  by_cases hbe:b = e
  ·have q':H b = some (.own x):=by
    rcases he with z | z
    ·exact absurd (hbe.trans z) hb
    ·rw [hbe]; exact z
   rw [q] at q'; cases q'
   obtain ⟨v,hv⟩:=heo
   exact ⟨v,by rw [hbe]; exact hv⟩
  ·refine (ok b u q).stay (fun c v hc r=>k c v ?_ r) (fun c r=>by rw [upd_ne (nown c b r)]; exact r) fun c xs r=>by rw [upd_ne (ntup c xs r)]; exact r
   rcases hc with rfl | hc
   ·exact hbe
   ·rintro rfl
    rcases he with z | z
    ·exact nown c b hc z
    ·rw [hc] at z; cases z; exact hb rfl
end
structure Un (fs ex:List Addr) (H H':Hp) (h h':Heap):Prop where
 keep:∀ b o,h.get? b = some o → H b = none → b ∉ fs → b ∉ ex → h'.get? b = some o
 slot:∀ b o,h.get? b = some o → H b = none → b ∈ fs → b ∉ ex → ∃ sl,h'.get? b = some { o with slots:=sl }
 free:∀ b o,h.get? b = some o → H b = none → b ∉ ex → H' b = none
 there:∀ b o,h.get? b = some o → b ∉ ex → ∃ o',h'.get? b = some o'
 tups:∀ b xs,H b = some (.tup xs) → H' b = some (.tup xs)
 frzs:∀ b o u,H b = some (.frz o u) → H' b = some (.frz o u)
 tbls:∀ b ps,H b = some (.tbl ps) → ∃ more,H' b = some (.tbl (ps ++ more))
section
variable {fs fs' ex ex':List Addr} {H H1 H2:Hp} {h h1 h2 h':Heap} {a x e:Addr} {o:HO}
theorem Un.any (u:Un fs ex H H1 h h1) {b:Addr} {ob:Obj} (q:h.get? b = some ob) (n:H b = none) (hx:b ∉ ex):∃ sl,h1.get? b = some { ob with slots:=sl }:=by
 by_cases hb:b ∈ fs
 ·exact u.slot b ob q n hb hx
 ·exact ⟨ob.slots,u.keep b ob q n hb hx⟩
theorem Un.kept (k:∀ b u,h.get? b = some u → h'.get? b = some u):Un fs ex H H h h' :=
 ⟨fun b ob q _ _ _=>k b ob q,fun b ob q _ _ _=>⟨ob.slots,k b ob q⟩,fun _ _ _ n _=>n,fun b ob q _=>⟨ob,k b ob q⟩,fun _ _ q=>q,fun _ _ _ q=>q,fun _ ps q=>⟨#[],by rw [q]; simp⟩⟩
theorem Un.refl:Un fs ex H H h h:=Un.kept fun _ _ q=>q
theorem Un.laid (k:∀ b u,h.get? b = some u → h'.get? b = some u) (hp:h.objs.size ≤ a) (hn:H a = none):Un fs ex H (upd H a o) h h' where
 keep:=fun b u q _ _ _=>k b u q
 slot:=fun b u q _ _ _=>⟨u.slots,k b u q⟩
 free:=fun b u q n _=>by rw [upd_ne (Nat.ne_of_lt (Nat.lt_of_lt_of_le (Heap.lt_size q) hp))]; exact n
 there:=fun b u q _=>⟨u,k b u q⟩
 tups:=fun b xs q=>by rw [upd_ne (ne_of_none q hn)]; exact q
 frzs:=fun b u xs q=>by rw [upd_ne (ne_of_none q hn)]; exact q
 tbls:=fun b ps q=>⟨#[],by rw [upd_ne (ne_of_none q hn),q]; simp⟩
theorem Un.write (mu:Mut (H x)) (he:e = x ∨ H e = some (.own x)) (k:∀ b u,b ≠ e → h.get? b = some u → h'.get? b = some u) (heo:∃ u,h'.get? e = some u):Un fs ex H (upd H x o) h h':=by
 have hx:∀ b,H b = none → b ≠ x:=fun b n z=>by subst z; rw [n] at mu; exact mu
 have hb:∀ b,H b = none → b ≠ e:=fun b n z=>by
  subst z
  rcases he with r | r
  ·exact hx b n r
  ·rw [n] at r; cases r
 have hm:∀ b u,H b = some u → ¬ Mut (some u) → b ≠ x:=fun b u q nm z=>by subst z; rw [q] at mu; exact nm mu
 refine ⟨fun b u q n _ _=>k b u (hb b n) q,fun b u q n _ _=>⟨u.slots,k b u (hb b n) q⟩,fun b u q n _=>by rw [upd_ne (hx b n)]; exact n,fun b u q _=>?_,
  fun b xs q=>by rw [upd_ne (hm b _ q fun z=>z)]; exact q,fun b u xs q=>by rw [upd_ne (hm b _ q fun z=>z)]; exact q,fun b ps q=>⟨#[],by rw [upd_ne (hm b _ q fun z=>z),q]; simp⟩⟩
 by_cases hbe:b = e
 ·subst hbe; exact heo
 ·exact ⟨u,k b u hbe q⟩
end
noncomputable def trk (h:Heap) (H:Hp):List Addr:=(List.range h.objs.size).filter fun a=>(H a).isSome
noncomputable def hidT (h:Heap) (H:Hp):Heap:=PySem.W.hideAll h (trk h H)
theorem hidT_size (h:Heap) (H:Hp):(hidT h H).objs.size = h.objs.size:=PySem.W.hideAll_size _ _
theorem hidT_get {h:Heap} {H:Hp} {b:Addr} {o:Obj} (e:h.get? b = some o) (n:H b = none):(hidT h H).get? b = some o :=
 PySem.W.hideAll_get _ e fun hm=>by
  have q:(H b).isSome = true:=(List.mem_filter.mp hm).2
  rw [n] at q; simp at q
theorem of_hidT {h:Heap} {H:Hp} {b:Addr} {o:Obj} (e:(hidT h H).get? b = some o):h.get? b = some o ∧ H b = none:=by
 have e':h.get? b = some o:=PySem.W.of_hideAll (trk h H) e
 refine ⟨e',?_⟩
 cases q:H b with
 | none=>rfl
 | some x =>
  have hm:b ∈ trk h H:=List.mem_filter.mpr ⟨List.mem_range.mpr (Heap.lt_size e'),by simp [q]⟩
  have z:(hidT h H).get? b = none:=PySem.W.hideAll_none (trk h H) hm
  rw [z] at e; cases e
noncomputable def allNews (g h:Heap) (L:Addr):List (Addr × Obj):=(List.range h.objs.size).filterMap fun a=>if a = L ∨ (g.get? a).isSome = true then none else (h.get? a).map fun o=>(a,o)
noncomputable def rest (g h:Heap) (L d:Addr):List (Addr × Obj):=(allNews g h L).filter fun p=>decide (p.1 ≠ d)
end L2
namespace L2
open PySem PySem.Spec PyProof.Rows
structure Mod (K:PySem.W.Frag) (mg:Str → Option Value) (base:Heap):Prop where
 kin:K.In base
 glob:base.Ns mainGlobals mg
 blt:∃ mb,base.Ns builtinsNs mb ∧ ∀ x:Str,x ≠ "__name__" → mb x = bootBuiltins x
 nolimit:base.NoLimit
structure Cx where
 prog:Program
 w:World
 K:PySem.W.Frag
 mg:Str → Option Value
 base:Heap
 A:Around
 N:List Str
 s_0:Shared
 H_0:Hp
 env:Env
 outer:List Env
 stack:List Env
 ex:List Addr
 fn:Str → Bool
 calm:Bool
 pn:List (Addr × Obj)
 xe:Value → Shared → Prop
noncomputable def frs (l:List Env):List Addr:=l.filterMap (·.frame)
noncomputable abbrev Cx.fs (X:Cx):List Addr:=frs X.outer
noncomputable def Vis (sc:Scope) (x:Str):Prop:=sc.names.lookup x = some .local ∨ sc.names.lookup x = some .cell ∨ sc.names.lookup x = some .free
noncomputable def Loc (sc:Scope) (x:Str):Prop:=sc.names.lookup x = some .local ∨ sc.names.lookup x = some .cell
noncomputable def Look (env:Env) (h:Heap) (m:Str → Option Value) (x:Str) (u:Value):Prop :=
 (env.kindOf x = some .local ∧ m x = some u) ∨ ((env.kindOf x = some .cell ∨ env.kindOf x = some .free) ∧ ∃ c,env.cells.lookup x = some c ∧ h.IsCell c (some u))
structure Cx.Ok (X:Cx):Prop where
 mod:Mod X.K X.mg X.base
 kind:X.env.scope.kind = .function
 glob:X.env.globals = mainGlobals
 blt:X.env.builtins = builtinsNs
 above:X.s_0.heap.objs.size ≤ X.env.locals
 inj:∀ x y c,X.env.cells.lookup x = some c → X.env.cells.lookup y = some c → x = y
 has:∀ x,(X.env.kindOf x = some .cell ∨ X.env.kindOf x = some .free) → ∃ c,X.env.cells.lookup x = some c
 cab:∀ x c,X.fn x = true → X.env.cells.lookup x = some c → X.s_0.heap.objs.size ≤ c
 hd:X.calm = true → X.A.handled = none
 frames:X.A.frames = some X.stack
 stk:X.stack = X.outer ∨ (X.stack = X.env :: X.outer ∧ X.env.frame = some X.env.locals)
 exf:∀ b ∈ X.ex,b ≠ X.env.locals ∧ ∀ x c,X.env.cells.lookup x = some c → c ≠ b
 bs:∀ b o,X.base.get? b = some o → X.s_0.heap.get? b = some o ∧ X.H_0 b = none
 bsz:X.base.objs.size ≤ X.s_0.heap.objs.size
 noex:∀ b o,X.base.get? b = some o → b ∉ X.ex
 exfs:∀ b ∈ X.ex,b ∉ X.fs
 funs:X.s_0.heap.FunFrames X.base X.outer
 frf:∀ b ∈ X.fs,X.H_0 b = none
structure Inv (X:Cx) (pins:List (Addr × Obj)) (σ:List (Option V)) (H:Hp) (s:Shared):Prop where
 ok:X.Ok
 os:s.os = X.s_0.os
 bare:AllBare s.gens
 base:Un X.fs X.ex X.H_0 H X.s_0.heap s.heap
 loc:∃ m,s.heap.Ns X.env.locals m ∧ ∀ (i:Nat) (x:Str) (v:V),X.N[i]? = some x → σ[i]? = some (some v) → Vis X.env.scope x → ∃ u,RelV v u ∧ Look X.env s.heap m x u
 cell:∀ x c,X.env.cells.lookup x = some c → ∃ v,s.heap.IsCell c v
 free:H X.env.locals = none
 freeC:∀ x c,X.env.cells.lookup x = some c → H c = none
 pin:∀ p ∈ X.pn ++ pins,s.heap.get? p.1 = some p.2 ∧ H p.1 = none ∧ p.1 ≠ X.env.locals ∧ p.1 ∉ X.fs ∧ ∀ v,p.2.data ≠ .cell v
 hok:HOk X.prog X.w H s.heap
 len:σ.length = X.N.length
section
variable {X:Cx} {pins:List (Addr × Obj)} {σ:List (Option V)} {H H':Hp} {s:Shared} {h':Heap}
theorem Cx.Ok.nofr (ok:X.Ok) {b:Addr} {o:Obj} (e:X.base.get? b = some o):b ∉ X.fs:=fun hb=>by
 have:=(ok.funs.mem hb).1
 rw [e] at this; cases this
theorem Inv.bs (I:Inv X pins σ H s):∀ b o,X.base.get? b = some o → s.heap.get? b = some o ∧ H b = none:=fun b o e =>
 ⟨I.base.keep b o (I.ok.bs b o e).1 (I.ok.bs b o e).2 (I.ok.nofr e) (I.ok.noex b o e),I.base.free b o (I.ok.bs b o e).1 (I.ok.bs b o e).2 (I.ok.noex b o e)⟩
theorem Inv.bk (I:Inv X pins σ H s):∀ b o,X.base.get? b = some o → s.heap.get? b = some o:=fun b o e=>(I.bs b o e).1
theorem Inv.mod (I:Inv X pins σ H s):Mod X.K X.mg X.base:=I.ok.mod
theorem Inv.kIn (I:Inv X pins σ H s):X.K.In s.heap:=I.ok.mod.kin.keeps I.bk
theorem Inv.fr (I:Inv X pins σ H s):∃ m,Fr X.base X.env.locals s.heap m :=
 let ⟨m,hn,_⟩:=I.loc
 ⟨m,hn,I.bk,Nat.le_trans I.ok.bsz I.ok.above⟩
theorem Inv.lt (I:Inv X pins σ H s):X.env.locals < s.heap.objs.size:=let ⟨_,hn,_⟩:=I.loc; hn.lt
theorem Inv.sz (I:Inv X pins σ H s):X.s_0.heap.objs.size ≤ s.heap.objs.size:=Nat.le_trans I.ok.above (Nat.le_of_lt I.lt)
theorem Inv.nofs (I:Inv X pins σ H s) {a:Addr} (h:s.heap.objs.size ≤ a):a ∉ X.fs:=fun hb=>by
 obtain ⟨_,o,ho,_⟩:=I.ok.funs.mem hb
 exact absurd (Nat.lt_of_lt_of_le (Heap.lt_size ho) (Nat.le_trans I.sz h)) (Nat.lt_irrefl _)
theorem Inv.cne (I:Inv X pins σ H s):∀ x c,X.env.cells.lookup x = some c → c ≠ X.env.locals:=fun x c e z=>by
 obtain ⟨v,o,ho,hd⟩:=I.cell x c e
 obtain ⟨m,⟨o',es,ep,ho',hd',_⟩,_⟩:=I.loc
 rw [z,ho'] at ho; cases ho; rw [hd'] at hd; cases hd
theorem Inv.funs (I:Inv X pins σ H s):s.heap.FunFrames X.base X.outer:=by
 have all:∀ (l:List Env),(∀ b ∈ frs l,b ∈ X.fs) → X.s_0.heap.FunFrames X.base l → s.heap.FunFrames X.base l:=by
  intro l
  induction l with
  | nil=>intro _ _; trivial
  | cons env r ih =>
   intro hs hl
   obtain ⟨hk,⟨L,o,hf,hn,ho,hd⟩,hr⟩:=hl
   have hL:L ∈ X.fs:=hs L (by unfold frs; rw [List.filterMap_cons,hf]; exact List.mem_cons_self)
   obtain ⟨sl,e⟩:=I.base.slot L o ho (I.ok.frf L hL) hL fun z=>I.ok.exfs L z hL
   exact ⟨hk,⟨L,_,hf,hn,e,hd⟩,ih (fun b hb=>hs b (by unfold frs; rw [List.filterMap_cons,hf]; exact List.mem_cons_of_mem _ hb)) hr⟩
 exact all X.outer (fun _ hb=>hb) I.ok.funs
theorem Inv.stack (I:Inv X pins σ H s):s.heap.FunFrames X.base X.stack:=by
 rcases I.ok.stk with e | ⟨e,hf⟩
 ·rw [e]; exact I.funs
 ·rw [e]
  obtain ⟨m,hn,_⟩:=I.loc
  refine .cons (by rw [I.ok.kind]; decide) hf hn ?_ I.funs
  exact Heap.get?_none_of_le (Nat.le_trans I.ok.bsz I.ok.above)
theorem Inv.stkSub (I:Inv X pins σ H s):∀ b ∈ frs X.stack,b ∈ X.env.locals :: X.fs:=fun b hb=>by
 rcases I.ok.stk with e | ⟨e,hf⟩
 ·rw [e] at hb; exact List.mem_cons_of_mem _ hb
 ·rw [e] at hb
  unfold frs at hb
  rw [List.filterMap_cons,hf] at hb
  exact hb
theorem Inv.stkFree (I:Inv X pins σ H s):∀ b ∈ frs X.stack,H b = none:=fun b hb=>by
 rcases List.mem_cons.mp (I.stkSub b hb) with e | hb
 ·rw [e]; exact I.free
 ·obtain ⟨_,o,ho,_⟩:=I.ok.funs.mem hb
  exact I.base.free b o ho (I.ok.frf b hb) fun z=>I.ok.exfs b z hb
theorem Inv.step {g':Array GenState} {t':Nat} {d':Drawn} {ch:List Addr} (I:Inv X pins σ H s)
  (hch:∀ b ∈ ch,(b ∈ X.ex ∨ X.s_0.heap.objs.size ≤ b) ∧ b ≠ X.env.locals ∧ (∀ x c,X.env.cells.lookup x = some c → c ≠ b) ∧ ∀ p ∈ X.pn ++ pins,p.1 ≠ b)
  (keep:∀ b o,b ≠ X.env.locals → b ∉ X.fs → b ∉ ch → s.heap.get? b = some o → H b = none → h'.get? b = some o)
  (slot:∀ b o,b ≠ X.env.locals → b ∈ X.fs → b ∉ ch → s.heap.get? b = some o → H b = none → ∃ sl,h'.get? b = some { o with slots:=sl }) (free:∀ b o,b ∉ ch → s.heap.get? b = some o → H b = none → H' b = none)
  (there:∀ b o,b ∉ ch → s.heap.get? b = some o → ∃ o',h'.get? b = some o')
  (tups:∀ b xs,H b = some (.tup xs) → H' b = some (.tup xs)) (frzs:∀ b o u,H b = some (.frz o u) → H' b = some (.frz o u)) (tbls:∀ b ps,H b = some (.tbl ps) → ∃ more,H' b = some (.tbl (ps ++ more)))
  (ns:∀ m,s.heap.Ns X.env.locals m → h'.Ns X.env.locals m) (hok:HOk X.prog X.w H' h') (hg:AllBare g') :
  Inv X pins σ H' { s with heap:=h',gens:=g',drawn:=d',toks:=t' }:=by
 have neL:∀ b o,X.s_0.heap.get? b = some o → b ≠ X.env.locals:=fun b o e=>Nat.ne_of_lt (Nat.lt_of_lt_of_le (Heap.lt_size e) I.ok.above)
 have neC:∀ b o,X.s_0.heap.get? b = some o → b ∉ X.ex → b ∉ ch:=fun b o e hx hb=>by
  rcases (hch b hb).1 with z | z
  ·exact hx z
  ·exact absurd (Nat.lt_of_lt_of_le (Heap.lt_size e) z) (Nat.lt_irrefl _)
 have cellK:∀ x c,X.env.cells.lookup x = some c → ∀ v,s.heap.IsCell c v → h'.IsCell c v:=fun x c e v ⟨o,ho,hd⟩=>by
  have nch:c ∉ ch:=fun z=>(hch c z).2.2.1 x c e rfl
  by_cases hc:c ∈ X.fs
  ·obtain ⟨sl,q⟩:=slot c o (I.cne x c e) hc nch ho (I.freeC x c e)
   exact ⟨_,q,hd⟩
  ·exact ⟨o,keep c o (I.cne x c e) hc nch ho (I.freeC x c e),hd⟩
 refine ⟨I.ok,I.os,hg,⟨fun b o e n hb hx=>?_,fun b o e n hb hx=>?_,fun b o e n hx=>?_,fun b o e hx=>?_,fun b xs e=>tups b xs (I.base.tups b xs e),fun b o xs e=>frzs b o xs (I.base.frzs b o xs e),fun b ps e=>?_⟩,?_,fun x c e=>?_,?_,fun x c e=>?_,fun p hp=>?_,hok,I.len⟩
 ·exact keep b o (neL b o e) hb (neC b o e hx) (I.base.keep b o e n hb hx) (I.base.free b o e n hx)
 ·obtain ⟨sl,e1⟩:=I.base.slot b o e n hb hx
  obtain ⟨sl',e2⟩:=slot b _ (neL b o e) hb (neC b o e hx) e1 (I.base.free b o e n hx)
  exact ⟨sl',e2⟩
 ·obtain ⟨o',e1⟩:=I.base.there b o e hx
  exact free b o' (neC b o e hx) e1 (I.base.free b o e n hx)
 ·obtain ⟨o',e1⟩:=I.base.there b o e hx
  exact there b o' (neC b o e hx) e1
 ·obtain ⟨m1,e1⟩:=I.base.tbls b ps e
  obtain ⟨m2,e2⟩:=tbls b _ e1
  exact ⟨m1 ++ m2,by rw [e2,Array.append_assoc]⟩
 ·obtain ⟨m,hn,hl⟩:=I.loc
  refine ⟨m,ns m hn,fun i x v e1 e2 e3=>?_⟩
  obtain ⟨u,r,l⟩:=hl i x v e1 e2 e3
  refine ⟨u,r,?_⟩
  rcases l with l | ⟨k,c,e,z⟩
  ·exact .inl l
  ·exact .inr ⟨k,c,e,cellK x c e _ z⟩
 ·obtain ⟨v,z⟩:=I.cell x c e
  exact ⟨v,cellK x c e v z⟩
 ·obtain ⟨m,⟨o,_,_,ho,_⟩,_⟩:=I.loc
  exact free _ o (fun z=>(hch _ z).2.1 rfl) ho I.free
 ·obtain ⟨v,o,ho,hd⟩:=I.cell x c e
  exact free c o (fun z=>(hch c z).2.2.1 x c e rfl) ho (I.freeC x c e)
 ·obtain ⟨e,n,ne,nf,d⟩:=I.pin p hp
  have nch:p.1 ∉ ch:=fun z=>(hch p.1 z).2.2.2 p hp rfl
  exact ⟨keep p.1 p.2 ne nf nch e n,free p.1 p.2 nch e n,ne,nf,d⟩
theorem Inv.un {t':Nat} (I:Inv X pins σ H s) (u:Un X.fs [] H H' s.heap h') (hok:HOk X.prog X.w H' h'):Inv X pins σ H' { s with heap:=h',toks:=t' }:=by
 obtain ⟨m,⟨o,es,ep,ho,r⟩,_⟩:=id I.loc
 obtain ⟨sl,hL⟩:=u.any ho I.free (by simp)
 exact I.step (g':=s.gens) (d':=s.drawn) (ch:=[]) (fun _ z=>nomatch z) (fun b o _ hb _ e n=>u.keep b o e n hb (by simp)) (fun b o _ hb _ e n=>u.slot b o e n hb (by simp)) (fun b o _ e n=>u.free b o e n (by simp)) (fun b o _ e=>u.there b o e (by simp)) u.tups u.frzs u.tbls (fun m' hm=>by
  obtain ⟨o',es',ep',ho',r'⟩:=hm
  rw [ho] at ho'; cases ho'
  exact ⟨_,es',ep',hL,r'⟩) hok I.bare
theorem Inv.call {g':Array GenState} {t':Nat} {d':Drawn} {ch:List Addr} (I:Inv X pins σ H s) (u:Un (frs X.stack) ch H H' s.heap h') (hok:HOk X.prog X.w H' h') (hg:AllBare g')
  (hch:∀ b ∈ ch,(b ∈ X.ex ∨ X.s_0.heap.objs.size ≤ b) ∧ b ≠ X.env.locals ∧ (∀ x c,X.env.cells.lookup x = some c → c ≠ b) ∧ ∀ p ∈ X.pn ++ pins,p.1 ≠ b) :
  Inv X pins σ H' { s with heap:=h',gens:=g',drawn:=d',toks:=t' }:=by
 obtain ⟨m,⟨o,es,ep,ho,r⟩,_⟩:=id I.loc
 obtain ⟨sl,hL⟩:=u.any ho I.free fun z=>(hch _ z).2.1 rfl
 exact I.step (ch:=ch) hch (fun b o hL hb hc e n=>u.keep b o e n (fun z=>(List.mem_cons.mp (I.stkSub b z)).elim hL hb) hc) (fun b o _ _ hc e n=>u.any e n hc) (fun b o hc e n=>u.free b o e n hc) (fun b o hc e=>u.there b o e hc) u.tups u.frzs u.tbls (fun m' hm=>by
  obtain ⟨o',es',ep',ho',r'⟩:=hm
  rw [ho] at ho'; cases ho'
  exact ⟨_,es',ep',hL,r'⟩) hok hg
theorem Inv.turned {t':Nat} {it:Addr} (I:Inv X pins σ H s) (k:∀ b o,b ≠ it → s.heap.get? b = some o → h'.get? b = some o) (hn:H it = none) (hL:it ≠ X.env.locals)
  (h1:it ∈ X.ex ∨ X.s_0.heap.objs.size ≤ it) (h2:∀ x c,X.env.cells.lookup x = some c → c ≠ it) (h3:∀ p ∈ X.pn ++ pins,p.1 ≠ it):Inv X pins σ H { s with heap:=h',toks:=t' }:=by
 have nit:∀ b u,H b = some u → b ≠ it:=fun b u e z=>by rw [z,hn] at e; cases e
 refine I.step (g':=s.gens) (d':=s.drawn) (ch:=[it]) (fun b hb=>?_) (fun b o _ _ hc e _=>k b o (fun z=>hc (by simp [z])) e) (fun b o _ _ hc e _=>⟨o.slots,k b o (fun z=>hc (by simp [z])) e⟩) (fun _ _ _ _ n=>n)
  (fun b o hc e=>⟨o,k b o (fun z=>hc (by simp [z])) e⟩) (fun _ _ e=>e) (fun _ _ _ e=>e) (fun b ps e=>⟨#[],by rw [e]; simp⟩) (fun m hm=>?_) (fun b u e=>?_) I.bare
 ·have e:b = it:=by simpa using hb
  subst e
  exact ⟨h1,hL,h2,h3⟩
 ·obtain ⟨o,es,ep,ho,r⟩:=hm
  exact ⟨o,es,ep,k _ o (Ne.symm hL) ho,r⟩
 ·refine (I.hok b u e).stay (fun c v hc q=>k c v ?_ q) (fun _ q=>q) fun _ _ q=>q
  rcases hc with z | z
  ·rw [z]; exact nit b u e
  ·exact nit c _ z
theorem Inv.tok (I:Inv X pins σ H s) (t:Nat):Inv X pins σ H { s with toks:=t }:=I.un (h':=s.heap) (t':=t) Un.refl I.hok
theorem Inv.kept {t':Nat} (I:Inv X pins σ H s) (k:∀ b u,s.heap.get? b = some u → h'.get? b = some u):Inv X pins σ H { s with heap:=h',toks:=t' }:=I.un (Un.kept k) (I.hok.kept k)
theorem Inv.laid {a:Addr} {o:HO} {t':Nat} (I:Inv X pins σ H s) (k:∀ b u,s.heap.get? b = some u → h'.get? b = some u) (hp:s.heap.objs.size ≤ a) (new:ObjOk X.prog X.w (upd H a o) h' a o) :
  Inv X pins σ (upd H a o) { s with heap:=h',toks:=t' }:=I.un (Un.laid k hp (I.hok.fresh hp)) (I.hok.laid k hp new)
theorem Inv.write {x e:Addr} {o:HO} {t':Nat} (I:Inv X pins σ H s) (mu:Mut (H x)) (he:e = x ∨ H e = some (.own x)) (k:∀ b u,b ≠ e → s.heap.get? b = some u → h'.get? b = some u) (heo:∃ u,h'.get? e = some u)
  (new:ObjOk X.prog X.w (upd H x o) h' x o):Inv X pins σ (upd H x o) { s with heap:=h',toks:=t' }:=I.un (Un.write mu he k heo) (I.hok.write mu he k heo new)
theorem Inv.weak {σ':List (Option V)} (I:Inv X pins σ H s) (hl:σ'.length = σ.length) (w:∀ (i:Nat) v,σ'[i]? = some (some v) → σ[i]? = some (some v)):Inv X pins σ' H s :=
 ⟨I.ok,I.os,I.bare,I.base,let ⟨m,hn,hl'⟩:=I.loc; ⟨m,hn,fun i x v e1 e2 e3=>hl' i x v e1 (w i v e2) e3⟩,I.cell,I.free,I.freeC,I.pin,I.hok,hl.trans I.len⟩
theorem Inv.pins_of {pins':List (Addr × Obj)} (I:Inv X pins σ H s) (h:∀ p ∈ pins',s.heap.get? p.1 = some p.2 ∧ H p.1 = none ∧ p.1 ≠ X.env.locals ∧ p.1 ∉ X.fs ∧ ∀ v,p.2.data ≠ .cell v):Inv X pins' σ H s :=
 ⟨I.ok,I.os,I.bare,I.base,I.loc,I.cell,I.free,I.freeC,fun p hp=>(List.mem_append.mp hp).elim (fun z=>I.pin p (List.mem_append_left _ z)) (h p),I.hok,I.len⟩
theorem nodup_ix {N:List Str} (hN:N.Nodup) {i j:Nat} {x:Str} (a:N[i]? = some x) (b:N[j]? = some x):i = j:=by
 obtain ⟨h1,e1⟩:=List.getElem?_eq_some_iff.mp a
 obtain ⟨h2,e2⟩:=List.getElem?_eq_some_iff.mp b
 exact (List.getElem_inj hN).mp (e1.trans e2.symm)
theorem store_ok2 {M:Model} {A:Around} {E:Value → Shared → Prop} {i:Nat} {x:Str} {v:V} {u:Value} {Q:Unit → Shared → Prop} (I:Inv X pins σ H s) (hN:X.N.Nodup) (hi:X.N[i]? = some x) (hx:Loc X.env.scope x) (r:RelV v u)
  (h:∀ s',Inv X pins (σ.set i (some v)) H s' → (∃ a,Heap.SameBut a s.heap s'.heap ∧ (a = X.env.locals ∨ X.env.cells.lookup x = some a)) → Q () s') (hf:X.fn x = true ∨ X.env.scope.names.lookup x = some .local:=by first | exact .inl rfl | exact .inr rfl | assumption):wpAny M A (storeName X.env x u) Q E s:=by
 obtain ⟨m,hn,hl⟩:=id I.loc
 have hcls:(X.env.scope.kind == .class || (X.env.scope.kind == .module && X.env.locals != X.env.globals)) = false:=by rw [I.ok.kind]; rfl
 have hiσ:i < σ.length:=by rw [I.len]; exact (List.getElem?_eq_some_iff.mp hi).1
 have cne:=I.cne
 have tracked:∀ {a:Addr} {h':Heap},(∃ o,s.heap.get? a = some o ∧ H a = none) → Heap.SameBut a s.heap h' → HOk X.prog X.w H h':=fun {a h'} ha hs b ob e=>by
  obtain ⟨_,_,hfree⟩:=ha
  refine (I.hok b ob e).stay (fun c w' hc q=>(hs.2 c ?_).trans q) (fun _ q=>q) fun _ _ q=>q
  rintro rfl
  rcases hc with rfl | hc
  ·rw [hfree] at e; cases e
  ·rw [hfree] at hc; cases hc
 rcases hx with hk | hk
 ·refine wpAny_storeName_local hk hn (fun h' hn' hs=>?_) hcls
  obtain ⟨oL,_,_,hoL,_⟩:=id hn
  refine h _ ⟨I.ok,I.os,I.bare,⟨fun b o e n hb hx=>?_,fun b o e n hb hx=>?_,I.base.free,fun b o e hx=>?_,I.base.tups,I.base.frzs,I.base.tbls⟩,⟨_,hn',fun j y v' e1 e2 e3=>?_⟩,fun y c e=>?_,I.free,I.freeC,fun p hp=>?_,tracked ⟨oL,hoL,I.free⟩ hs,by simpa using I.len⟩ ⟨_,hs,.inl rfl⟩
  ·exact (hs.2 b (Nat.ne_of_lt (Nat.lt_of_lt_of_le (Heap.lt_size e) I.ok.above))).trans (I.base.keep b o e n hb hx)
  ·obtain ⟨sl,e1⟩:=I.base.slot b o e n hb hx
   exact ⟨sl,(hs.2 b (Nat.ne_of_lt (Nat.lt_of_lt_of_le (Heap.lt_size e) I.ok.above))).trans e1⟩
  ·obtain ⟨o',e1⟩:=I.base.there b o e hx
   exact ⟨o',(hs.2 b (Nat.ne_of_lt (Nat.lt_of_lt_of_le (Heap.lt_size e) I.ok.above))).trans e1⟩
  ·by_cases hj:j = i
   ·subst hj
    rw [hi] at e1; cases e1
    rw [List.getElem?_set_self hiσ] at e2
    cases e2
    exact ⟨u,r,.inl ⟨hk,by simp⟩⟩
   ·rw [List.getElem?_set_ne (Ne.symm hj)] at e2
    obtain ⟨u',r',q⟩:=hl j y v' e1 e2 e3
    refine ⟨u',r',?_⟩
    rcases q with ⟨k,e⟩ | ⟨k,c,e,z⟩
    ·refine .inl ⟨k,?_⟩
     have:y ≠ x:=fun e=>hj (nodup_ix hN e1 (e ▸ hi))
     simp [this,e]
    ·exact .inr ⟨k,c,e,z.sameBut hs (cne y c e)⟩
  ·obtain ⟨w',z⟩:=I.cell y c e
   exact ⟨w',z.sameBut hs (cne y c e)⟩
  ·obtain ⟨e,n,ne,nf,d⟩:=I.pin p hp
   exact ⟨(hs.2 p.1 ne).trans e,n,ne,nf,d⟩
 ·have hfn:X.fn x = true:=by
   rcases hf with z | z
   ·exact z
   ·rw [z] at hk; cases hk
  obtain ⟨c,hc⟩:=I.ok.has x (.inl hk)
  obtain ⟨w',z⟩:=I.cell x c hc
  refine wpAny_storeName_cell I.ok.kind hk hc z (fun h' hc' hs=>?_)
  obtain ⟨oc,hoc,hocd⟩:=id z
  refine h { s with heap:=h' } ⟨I.ok,I.os,I.bare,⟨fun b o e n hb hx=>?_,fun b o e n hb hx=>?_,I.base.free,fun b o e hx=>?_,I.base.tups,I.base.frzs,I.base.tbls⟩,⟨m,hn.sameBut hs (Ne.symm (cne x c hc)),fun j y v' e1 e2 e3=>?_⟩,fun y c' e=>?_,I.free,I.freeC,fun p hp=>?_,tracked ⟨oc,hoc,I.freeC x c hc⟩ hs,by simpa using I.len⟩ ⟨c,hs,.inr hc⟩
  ·exact (hs.2 b (Nat.ne_of_lt (Nat.lt_of_lt_of_le (Heap.lt_size e) (I.ok.cab x c hfn hc)))).trans (I.base.keep b o e n hb hx)
  ·obtain ⟨sl,e1⟩:=I.base.slot b o e n hb hx
   exact ⟨sl,(hs.2 b (Nat.ne_of_lt (Nat.lt_of_lt_of_le (Heap.lt_size e) (I.ok.cab x c hfn hc)))).trans e1⟩
  ·obtain ⟨o',e1⟩:=I.base.there b o e hx
   exact ⟨o',(hs.2 b (Nat.ne_of_lt (Nat.lt_of_lt_of_le (Heap.lt_size e) (I.ok.cab x c hfn hc)))).trans e1⟩
  ·by_cases hj:j = i
   ·subst hj
    rw [hi] at e1; cases e1
    rw [List.getElem?_set_self hiσ] at e2
    cases e2
    exact ⟨u,r,.inr ⟨.inl hk,c,hc,hc'⟩⟩
   ·rw [List.getElem?_set_ne (Ne.symm hj)] at e2
    obtain ⟨u',r',q⟩:=hl j y v' e1 e2 e3
    refine ⟨u',r',?_⟩
    rcases q with q | ⟨k,c',e,z'⟩
    ·exact .inl q
    ·refine .inr ⟨k,c',e,z'.sameBut hs ?_⟩
     rintro rfl
     exact hj (nodup_ix hN e1 (I.ok.inj _ _ _ e hc ▸ hi))
  ·by_cases hcc:c' = c
   ·subst hcc; exact ⟨_,hc'⟩
   ·obtain ⟨w2,z2⟩:=I.cell y c' e
    exact ⟨w2,z2.sameBut hs hcc⟩
  ·obtain ⟨e,n,ne,nf,d⟩:=I.pin p hp
   refine ⟨(hs.2 p.1 ?_).trans e,n,ne,nf,d⟩
   intro q
   rw [q,hoc] at e
   have q':oc = p.2:=Option.some.inj e
   exact d w' (by rw [← q']; exact hocd)
theorem store_ok {M:Model} {A:Around} {E:Value → Shared → Prop} {i:Nat} {x:Str} {v:V} {u:Value} {Q:Unit → Shared → Prop} (I:Inv X pins σ H s) (hN:X.N.Nodup) (hi:X.N[i]? = some x) (hx:Loc X.env.scope x) (r:RelV v u)
  (h:∀ s',Inv X pins (σ.set i (some v)) H s' → Q () s') (hf:X.fn x = true ∨ X.env.scope.names.lookup x = some .local:=by first | exact .inl rfl | exact .inr rfl | assumption):wpAny M A (storeName X.env x u) Q E s :=
 store_ok2 I hN hi hx r (fun s' I' _=>h s' I') hf
theorem Inv.call' {s':Shared} {ch:List Addr} (I:Inv X pins σ H s) (ho:s'.os = s.os) (u:Un (frs X.stack) ch H H' s.heap s'.heap) (hok:HOk X.prog X.w H' s'.heap) (hg:AllBare s'.gens)
  (hch:∀ b ∈ ch,(b ∈ X.ex ∨ X.s_0.heap.objs.size ≤ b) ∧ b ≠ X.env.locals ∧ (∀ x c,X.env.cells.lookup x = some c → c ≠ b) ∧ ∀ p ∈ X.pn ++ pins,p.1 ≠ b):Inv X pins σ H' s':=by
 obtain ⟨h',g',d',t',o'⟩:=s'
 have e:o' = s.os:=ho
 subst e
 exact I.call (g':=g') (t':=t') (d':=d') u hok hg hch
end
noncomputable abbrev XK:=Value → Option Addr → Hp → Prop
noncomputable abbrev St:=List (Option V)
noncomputable abbrev VK:=V → Hp → Prop
noncomputable abbrev TE:=St → Hp → VK → Prop
noncomputable abbrev TT:=St → Hp → (Bool → Hp → Prop) → Prop
noncomputable abbrev TA:=St → Hp → (List V → Hp → Prop) → Prop
structure Ends where
 nx:St → Hp → Prop
 rt:VK
 bk:St → Hp → Prop:=fun _ _=>False
 ct:St → Hp → Prop:=fun _ _=>False
noncomputable abbrev TS:=Ends → St → Hp → Prop
noncomputable def EP (X:Cx) (pins:List (Addr × Obj)) (σ:St) (Q:VK) (u:Value) (s':Shared):Prop:=∃ v H',Inv X pins σ H' s' ∧ RelV v u ∧ Q v H'
noncomputable def TP (X:Cx) (pins:List (Addr × Obj)) (σ:St) (Q:Bool → Hp → Prop) (b:Bool) (s':Shared):Prop:=∃ H',Inv X pins σ H' s' ∧ Q b H'
noncomputable def AP (X:Cx) (pins:List (Addr × Obj)) (σ:St) (Q:List V → Hp → Prop) (us:List Value) (s':Shared):Prop:=∃ vs H',Inv X pins σ H' s' ∧ Vals vs us ∧ Q vs H'
noncomputable def SP (X:Cx) (pins:List (Addr × Obj)) (D:Ends) (f:Flow) (s':Shared):Prop :=
 match f with
 | .next=>∃ σ' H',Inv X pins σ' H' s' ∧ D.nx σ' H'
 | .brk=>∃ σ' H',Inv X pins σ' H' s' ∧ D.bk σ' H'
 | .cont=>∃ σ' H',Inv X pins σ' H' s' ∧ D.ct σ' H'
 | .ret u=>∃ v σ' H',Inv X pins σ' H' s' ∧ RelV v u ∧ D.rt v H'
noncomputable def PE (X:Cx) (e:Expr) (t:TE):Prop :=
 ∀ (pins:List (Addr × Obj)) (s:Shared) (σ:St) (H:Hp) (Q:VK),Inv X pins σ H s → t σ H Q → wpAny (model X.prog X.w) X.A (eval e X.env) (EP X pins σ Q) X.xe s
noncomputable def PT (X:Cx) (e:Expr) (t:TT):Prop :=
 ∀ (pins:List (Addr × Obj)) (s:Shared) (σ:St) (H:Hp) (Q:Bool → Hp → Prop),Inv X pins σ H s → t σ H Q → wpAny (model X.prog X.w) X.A (isTrue e X.env (eval e X.env)) (TP X pins σ Q) X.xe s
noncomputable def PW (X:Cx) (e:Expr) (t:TT):Prop :=
 ∀ (whole:Sem Value) (pins:List (Addr × Obj)) (s:Shared) (σ:St) (H:Hp) (Q:Bool → Hp → Prop),Inv X pins σ H s → t σ H Q → wpAny (model X.prog X.w) X.A (isTrue e X.env whole) (TP X pins σ Q) X.xe s
theorem PW.pt {X:Cx} {e:Expr} {t:TT} (h:PW X e t):PT X e t:=h _
noncomputable def PA (X:Cx) (es:List Expr) (t:TA):Prop :=
 ∀ (pos:Pos) (pins:List (Addr × Obj)) (s:Shared) (σ:St) (H:Hp) (Q:List V → Hp → Prop),Inv X pins σ H s → t σ H Q → wpAny (model X.prog X.w) X.A (spliced (backTo pos (starEach es X.env))) (AP X pins σ Q) X.xe s
noncomputable def PS (X:Cx) (st:Stmt) (t:TS):Prop :=
 ∀ (pins:List (Addr × Obj)) (s:Shared) (σ:St) (H:Hp) (D:Ends),Inv X pins σ H s → t D σ H → wpAny (model X.prog X.w) X.A (exec st X.env) (SP X pins D) X.xe s
noncomputable def PSs (X:Cx) (st:List Stmt) (t:TS):Prop :=
 ∀ (pins:List (Addr × Obj)) (s:Shared) (σ:St) (H:Hp) (D:Ends),Inv X pins σ H s → t D σ H → wpAny (model X.prog X.w) X.A (execs st X.env) (SP X pins D) X.xe s
theorem thn {α:Type} {t:Sem α} {Q Q':α → Shared → Prop} {M:Model} {A:Around} {E:Value → Shared → Prop} {s:Shared} (h:wpAny M A t Q E s) (hQ:∀ a s,Q a s → Q' a s):wpAny M A t Q' E s:=wpAny_mono h hQ fun _ _ x=>x
end L2
namespace L2
open PySem PySem.Spec PyProof.Rows
section
variable {X:Cx}
theorem bin {a b:Expr} {ta tb:TE} (ha:PE X a ta) (hb:PE X b tb) {pins:List (Addr × Obj)} {s:Shared} {σ:St} {H:Hp} {R:V → V → Hp → Prop} (I:Inv X pins σ H s) (h:ta σ H fun x H1=>tb σ H1 fun y H2=>R x y H2)
  {α:Type} {Q:α → Shared → Prop} {f:Value → Value → Sem α}
  (hf:∀ v u s2 x y H2,Inv X pins σ H2 s2 → RelV x v → RelV y u → R x y H2 → wpAny (model X.prog X.w) X.A (f v u) Q X.xe s2) :
  wpAny (model X.prog X.w) X.A (eval a X.env) (fun v s₁=>wpAny (model X.prog X.w) X.A (eval b X.env) (fun u s₂=>wpAny (model X.prog X.w) X.A (f v u) Q X.xe s₂) X.xe s₁) X.xe s:=by
 refine thn (ha pins s σ H _ I h) fun v s1 ⟨x,H1,I1,r1,q1⟩=>?_
 refine thn (hb pins s1 σ H1 _ I1 q1) fun u s2 ⟨y,H2,I2,r2,q2⟩=>?_
 exact hf v u s2 x y H2 I2 r1 r2 q2
noncomputable def tVar (i:Nat):TE:=fun σ H Q=>∃ v,σ[i]? = some (some v) ∧ Q v H
noncomputable def tC (v:V):TE:=fun _ H Q=>Q v H
theorem pe_var {i:Nat} {x:Str} {pos:Pos} (hN:X.N[i]? = some x) (hv:Vis X.env.scope x) (hd:(x == ("__debug__":Str)) = false:=by decide) (hcd:(x == ("__classdict__":Str)) = false:=by decide):PE X (.Name x pos) (tVar i):=by
 intro pins s σ H Q I h
 obtain ⟨v,e,h⟩:=h
 obtain ⟨m,hn,hl⟩:=I.loc
 obtain ⟨u,r,l⟩:=hl i x v hN e hv
 have fin:EP X pins σ Q u s:=⟨v,H,I,r,h⟩
 rcases l with ⟨hk,hm⟩ | ⟨hk,c,hc,hcell⟩
 ·exact wpAny_Name (wpAny_loadName_local I.ok.kind hk hn hm fin) hd
 ·rcases hk with hk | hk
  ·exact wpAny_Name (wpAny_loadName_cell I.ok.kind hk hc hcell fin) hd
  ·exact wpAny_Name (wpAny_loadName_free I.ok.kind hk hc hcell fin hcd) hd
theorem pe_int {i j pos}:PE X (.Constant (.int i) j pos) (tC (.int i)):=fun _ _ _ H _ I h=>wpAny_Constant_int ⟨.int i,H,I.tok _,⟨_,rfl⟩,h⟩
theorem pe_bl {b j pos}:PE X (.Constant (.bool b) j pos) (tC (.bl b)):=fun _ _ _ H _ I h=>Constant_bool ⟨.bl b,H,I,rfl,h⟩
theorem pe_non {j pos}:PE X (.Constant .none j pos) (tC .non):=fun _ _ _ H _ I h=>Constant_none ⟨.non,H,I,rfl,h⟩
noncomputable def Gl (X:Cx) (x:Str):Prop:=X.env.kindOf x = some .globalImplicit
theorem ld_glob {E:Value → Shared → Prop} {pins:List (Addr × Obj)} {s:Shared} {σ:St} {H:Hp} {x:Str} {u:Value} {pos:Pos} {Q:Value → Shared → Prop} (I:Inv X pins σ H s) (hg:Gl X x) (hm:X.mg x = some u) (h:Q u s)
  (hd:(x == ("__debug__":Str)) = false:=by decide):wpAny (model X.prog X.w) X.A (eval (.Name x pos) X.env) Q E s :=
 Calls.Name_function_global I.ok.kind hg (Calls.loadGlobal_global (by rw [I.ok.glob]; exact I.mod.glob.keeps I.bk) hm h) hd
theorem ld_blt {E:Value → Shared → Prop} {pins:List (Addr × Obj)} {s:Shared} {σ:St} {H:Hp} {x:Str} {u:Value} {pos:Pos} {Q:Value → Shared → Prop} (I:Inv X pins σ H s) (hg:Gl X x) (hm:X.mg x = none) (hv:bootBuiltins x = some u) (h:Q u s)
  (hn:x ≠ "__name__":=by decide) (hd:(x == ("__debug__":Str)) = false:=by decide):wpAny (model X.prog X.w) X.A (eval (.Name x pos) X.env) Q E s:=by
 obtain ⟨mb,h1,h2⟩:=I.mod.blt
 exact Calls.Name_function_global I.ok.kind hg (Calls.loadGlobal_builtin (by rw [I.ok.glob]; exact I.mod.glob.keeps I.bk) hm (by rw [I.ok.blt]; exact h1.keeps I.bk) ((h2 x hn).trans hv) h) hd
theorem pe_glob {x:Str} {v:V} {u:Value} {pos:Pos} (hg:Gl X x) (hm:X.mg x = some u) (r:RelV v u) (hd:(x == ("__debug__":Str)) = false:=by decide):PE X (.Name x pos) (tC v) :=
 fun _ _ _ H _ I h=>ld_glob I hg hm ⟨v,H,I,r,h⟩ hd
variable {a b:Expr} {ta tb:TE} {pos:Pos}
variable {tA tB':TT} {rest:List Expr}
noncomputable def tOr (t u:TT):TT:=fun σ H Q=>t σ H fun c H1=>if c = true then Q true H1 else u σ H1 Q
noncomputable def tNot (t:TT):TT:=fun σ H Q=>t σ H fun c H1=>Q (!c) H1
theorem pw_or1 (ha:PT X a tA):PW X (.BoolOp .Or [a] pos) tA:=by
 intro wh pins s σ H Q I h
 refine isTrue_or (thn (ha pins s σ H Q I h) fun c s1 e=>?_)
 cases c with
 | false=>exact isTrue_or_nil e
 | true=>exact e
theorem pw_or (ha:PT X a tA) (hb:PW X (.BoolOp .Or (b :: rest) pos) tB'):PW X (.BoolOp .Or (a :: b :: rest) pos) (tOr tA tB'):=by
 intro wh pins s σ H Q I h
 refine isTrue_or (thn (ha pins s σ H _ I h) fun c s1 ⟨H1,I1,q1⟩=>?_)
 cases c with
 | true=>exact ⟨H1,I1,q1⟩
 | false=>exact hb wh pins s1 σ H1 Q I1 q1
theorem pt_not (ha:PT X a tA):PT X (.UnaryOp .Not a pos) (tNot tA):=by
 intro pins s σ H Q I h
 exact isTrue_not (ha pins s σ H (fun c H1=>Q (!c) H1) I h)
noncomputable def tAndV (ta tb:TE):TE:=fun σ H Q=>ta σ H fun x H1=>∃ c,x = .bl c ∧ if c = true then tb σ H1 Q else Q (.bl false) H1
theorem pe_one {op} {t:TE} (h:PE X a t):PE X (.BoolOp op [a] pos) t:=fun pins s σ H Q I hw=>BoolOp_one (h pins s σ H Q I hw)
theorem pe_and (ha:PE X a ta) (hb:PE X (.BoolOp .And (b :: rest) pos) tb):PE X (.BoolOp .And (a :: b :: rest) pos) (tAndV ta tb):=by
 intro pins s σ H Q I h
 refine BoolOp_and (thn (ha pins s σ H _ I h) fun v s1 ⟨x,H1,I1,r1,q1⟩=>?_)
 obtain ⟨c,rfl,q1⟩:=q1
 cases r1
 refine wpAny_truthy_bool ?_
 cases c with
 | true=>exact hb pins s1 σ H1 Q I1 q1
 | false=>exact ⟨.bl false,H1,I1,rfl,q1⟩
noncomputable def tIf (t:TT) (ta tb:TE):TE:=fun σ H Q=>t σ H fun c H1=>if c = true then ta σ H1 Q else tb σ H1 Q
theorem pe_ifExp {c:Expr} (hc:PT X c tA) (ha:PE X a ta) (hb:PE X b tb):PE X (.IfExp c a b pos) (tIf tA ta tb):=by
 intro pins s σ H Q I h
 refine wpAny_IfExp (thn (hc pins s σ H _ I h) fun d s1 ⟨H1,I1,q1⟩=>?_)
 cases d with
 | true=>exact ha pins s1 σ H1 Q I1 q1
 | false=>exact hb pins s1 σ H1 Q I1 q1
end
end L2
namespace L2
open PySem PySem.Spec PyProof.Rows
noncomputable def SqL (K:PySem.W.Frag) (H:Hp) (a:Addr) (xs:List V):Prop :=
 Rd H a (.lst xs) ∨
  ∃ (o:Obj) (its:Array Value) (n:Nat),K.lookup a = some o ∧ o.cls = .type "list" ∧ o.dict = none ∧ o.data = .seq its n ∧ its.size ≤ sizeLine ∧ Vals xs its.toList
noncomputable def SqT (K:PySem.W.Frag) (H:Hp) (a:Addr) (xs:List V):Prop :=
 Rd H a (.tup xs) ∨
  ∃ (o:Obj) (its:Array Value) (n:Nat),K.lookup a = some o ∧ o.cls = .type "tuple" ∧ o.data = .seq its n ∧ its.size ≤ sizeLine ∧ Vals xs its.toList
noncomputable def absV:Value → Option V
 | .none=>some .non
 | .bool b=>some (.bl b)
 | .int i _=>some (.int i)
 | .str x _=>some (.str x)
 | .bytes b _=>some (.byt b)
 | .float b _=>some (.flt b)
 | .ref a=>some (.ref a)
 | .type n=>some (.ty n)
 | _=>none
theorem RelV.abs {x:V} {u:Value} (r:RelV x u):absV u = some x:=by
 cases x with
 | non=>cases r; rfl
 | bl _=>cases r; rfl
 | int _=>obtain ⟨t,rfl⟩:=r; rfl
 | str _=>obtain ⟨t,rfl⟩:=r; rfl
 | byt _=>obtain ⟨t,rfl⟩:=r; rfl
 | flt _=>obtain ⟨t,rfl⟩:=r; rfl
 | ref _=>cases r; rfl
 | ty _=>cases r; rfl
theorem RelV.inj {x y:V} {u:Value} (r:RelV x u) (q:RelV y u):x = y:=Option.some.inj (r.abs.symm.trans q.abs)
theorem Vals.inj:∀ {xs ys:List V} {us:List Value},Vals xs us → Vals ys us → xs = ys
 | _,_,_,.nil,.nil=>rfl
 | _,_,_,.cons r t,.cons r' t'=>by rw [r.inj r',Vals.inj t t']
section
variable {X:Cx} {pins:List (Addr × Obj)} {σ:St} {H:Hp} {s:Shared} {a:Addr} {xs ys:List V}
theorem SqL.of {K:PySem.W.Frag} (h:H a = some (.lst xs)):SqL K H a xs:=.inl (.inl h)
theorem SqT.of {K:PySem.W.Frag} (h:H a = some (.tup xs)):SqT K H a xs:=.inl (.inl h)
theorem Inv.list (I:Inv X pins σ H s) (h:SqL X.K H a xs):∃ its:List Value,Vals xs its ∧ PlainL s.heap a its.toArray ∧ xs.length ≤ sizeLine:=by
 rcases h with h | ⟨o,its,n,hk,hc,hd,hs,hz,r⟩
 ·obtain ⟨z,its,n,r,e⟩:=h.ok I.hok
  exact ⟨its,r,⟨_,n,e,rfl,rfl,rfl⟩,z⟩
 ·refine ⟨its.toList,r,⟨o,n,I.kIn a o hk,hc,hd,by simpa using hs⟩,?_⟩
  have e:=r.length
  simp only [Array.length_toList] at e
  omega
theorem Inv.tuple (I:Inv X pins σ H s) (h:SqT X.K H a xs):∃ its:List Value,Vals xs its ∧ IsTup s.heap a its.toArray ∧ xs.length ≤ sizeLine:=by
 rcases h with h | ⟨o,its,n,hk,hc,hs,hz,r⟩
 ·obtain ⟨z,its,r,p⟩:=h.ok I.hok
  exact ⟨its,r,p,z⟩
 ·refine ⟨its.toList,r,⟨o,I.kIn a o hk,hc,n,by simpa using hs⟩,?_⟩
  have e:=r.length
  simp only [Array.length_toList] at e
  omega
theorem Inv.list_inj (I:Inv X pins σ H s) (h:SqL X.K H a xs) (h':SqL X.K H a ys):xs = ys:=by
 obtain ⟨its,r,⟨o,n,e,_,_,d⟩,_⟩:=I.list h
 obtain ⟨its',r',⟨o',n',e',_,_,d'⟩,_⟩:=I.list h'
 rw [e] at e'; cases e'
 rw [d] at d'
 injection d' with d1 _
 have:its = its':=by simpa using congrArg Array.toList d1
 subst this
 exact r.inj r'
end
noncomputable abbrev Cx.wish (X:Cx) (E:Value → Shared → Prop):Cx:={ X with xe:=E }
noncomputable abbrev Cx.nox (X:Cx):Cx:=X.wish fun _ _=>False
theorem Cx.Ok.wish {X:Cx} (ok:X.Ok) (E:Value → Shared → Prop):(X.wish E).Ok :=
 ⟨ok.mod,ok.kind,ok.glob,ok.blt,ok.above,ok.inj,ok.has,ok.cab,ok.hd,ok.frames,ok.stk,ok.exf,ok.bs,ok.bsz,ok.noex,ok.exfs,ok.funs,ok.frf⟩
theorem Cx.Ok.unwish {X:Cx} {E:Value → Shared → Prop} (ok:(X.wish E).Ok):X.Ok :=
 ⟨ok.mod,ok.kind,ok.glob,ok.blt,ok.above,ok.inj,ok.has,ok.cab,ok.hd,ok.frames,ok.stk,ok.exf,ok.bs,ok.bsz,ok.noex,ok.exfs,ok.funs,ok.frf⟩
section
variable {X:Cx} {pins:List (Addr × Obj)} {σ:St} {H:Hp} {s:Shared} {E:Value → Shared → Prop}
theorem Inv.wish (I:Inv X pins σ H s) (E:Value → Shared → Prop):Inv (X.wish E) pins σ H s:=⟨I.ok.wish E,I.os,I.bare,I.base,I.loc,I.cell,I.free,I.freeC,I.pin,I.hok,I.len⟩
theorem Inv.unwish (I:Inv (X.wish E) pins σ H s):Inv X pins σ H s:=⟨I.ok.unwish,I.os,I.bare,I.base,I.loc,I.cell,I.free,I.freeC,I.pin,I.hok,I.len⟩
theorem SP.unwish {D:Ends} {f:Flow} {s':Shared} (h:SP (X.wish E) pins D f s'):SP X pins D f s':=by
 cases f with
 | next=>obtain ⟨σ',H',I,q⟩:=h; exact ⟨σ',H',I.unwish,q⟩
 | brk=>obtain ⟨σ',H',I,q⟩:=h; exact ⟨σ',H',I.unwish,q⟩
 | cont=>obtain ⟨σ',H',I,q⟩:=h; exact ⟨σ',H',I.unwish,q⟩
 | ret u=>obtain ⟨v,σ',H',I,r,q⟩:=h; exact ⟨v,σ',H',I.unwish,r,q⟩
theorem PSs.nox {st:List Stmt} {t:TS} (h:PSs X.nox st t):PSs X st t:=fun pins s σ H D I hw =>
 wpAny_mono (h pins s σ H D (I.wish _) hw) (fun _ _ q=>q.unwish) fun _ _ z=>False.elim z
end
section
variable {X:Cx} {st:Stmt} {rest:List Stmt} {t u:TS} {e:Expr} {te:TE} {pos:Pos}
noncomputable def tNext:TS:=fun D σ H=>D.nx σ H
noncomputable def tSeq (t u:TS):TS:=fun D σ H=>t { D with nx:=u D } σ H
theorem pss_nil:PSs X [] tNext:=fun _ _ σ H _ I h=>wpAny_execs_nil ⟨σ,H,I,h⟩
theorem pss_cons (h1:PS X st t) (h2:PSs X rest u):PSs X (st :: rest) (tSeq t u):=by
 intro pins s σ H D I h
 refine wpAny_execs_cons (thn (h1 pins s σ H { D with nx:=u D } I h) fun f s1 q=>?_)
 cases f with
 | next =>
  obtain ⟨σ',H',I',q⟩:=q
  exact h2 pins s1 σ' H' D I' q
 | ret v=>exact q
 | brk=>exact q
 | cont=>exact q
theorem pss_one (h1:PS X st t):PSs X [st] t:=by
 intro pins s σ H D I h
 refine wpAny_execs_cons (thn (h1 pins s σ H D I h) fun f s1 q=>?_)
 cases f with
 | next=>exact wpAny_execs_nil q
 | ret v=>exact q
 | brk=>exact q
 | cont=>exact q
theorem Inv.quiet {pins:List (Addr × Obj)} {σ:St} {H:Hp} {s:Shared} (I:Inv X pins σ H s):interactive X.env = false:=by simp [interactive,I.ok.kind]
noncomputable def tDrop (te:TE):TS:=fun D σ H=>te σ H fun _ H1=>D.nx σ H1
theorem ps_expr (he:PE X e te) (hs:swapsWith e none pos.line X.env = pure false:=by rfl):PS X (.Expr e pos) (tDrop te):=by
 intro pins s σ H D I h
 exact wpAny_Expr_any (thn (he pins s σ H _ I h) fun v s1 ⟨x,H1,I1,r1,q1⟩=>⟨σ,H1,I1,q1⟩) I.quiet hs
noncomputable def tRet (te:TE):TS:=fun D σ H=>te σ H D.rt
theorem ps_ret (he:PE X e te):PS X (.Return (some e) pos) (tRet te):=by
 intro pins s σ H D I h
 exact wpAny_Return_some (thn (he pins s σ H _ I h) fun v s1 ⟨x,H1,I1,r1,q1⟩=>⟨x,σ,H1,I1,r1,q1⟩)
noncomputable def tIfS (c:TT) (t u:TS):TS:=fun D σ H=>c σ H fun b H1=>if b = true then t D σ H1 else u D σ H1
theorem ps_if {c:Expr} {a b:List Stmt} {tc:TT} (hc:PT X c tc) (ha:PSs X a t) (hb:PSs X b u):PS X (.If c a b pos) (tIfS tc t u):=by
 intro pins s σ H D I h
 refine wpAny_If (thn (hc pins s σ H _ I h) fun d s1 ⟨H1,I1,q1⟩=>?_)
 cases d with
 | true=>exact ha pins s1 σ H1 D I1 q1
 | false=>exact hb pins s1 σ H1 D I1 q1
end
noncomputable abbrev TG:=V → St → Hp → (St → Hp → Prop) → Prop
noncomputable abbrev TGs:=List V → St → Hp → (St → Hp → Prop) → Prop
noncomputable def PG (X:Cx) (target:Expr) (t:TG):Prop :=
 ∀ (pins:List (Addr × Obj)) (s:Shared) (σ:St) (H:Hp) (v:V) (u:Value) (Q:St → Hp → Prop),Inv X pins σ H s → RelV v u → t v σ H Q →
  wpAny (model X.prog X.w) X.A (assign target X.env u) (fun _ s'=>∃ σ' H',Inv X pins σ' H' s' ∧ Q σ' H') X.xe s
noncomputable def PGs (X:Cx) (ts:List Expr) (t:TGs):Prop :=
 ∀ (pins:List (Addr × Obj)) (s:Shared) (σ:St) (H:Hp) (vs:List V) (us:List Value) (Q:St → Hp → Prop),Inv X pins σ H s → Vals vs us → t vs σ H Q →
  wpAny (model X.prog X.w) X.A (assignInOrder ((assignEach ts X.env).map (·.2)) us) (fun _ s'=>∃ σ' H',Inv X pins σ' H' s' ∧ Q σ' H') X.xe s
noncomputable abbrev TSet:=V → V → V → Hp → (Hp → Prop) → Prop
noncomputable def PSet (X:Cx) (t:TSet):Prop :=
 ∀ (pins:List (Addr × Obj)) (s:Shared) (σ:St) (H:Hp) (o i v:V) (ov iv u:Value) (Q:Hp → Prop),Inv X pins σ H s → RelV o ov → RelV i iv → RelV v u → t o i v H Q →
  wpAny (model X.prog X.w) X.A (setItem ov iv u) (fun _ s'=>∃ H',Inv X pins σ H' s' ∧ Q H') X.xe s
noncomputable abbrev TIp:=V → V → Hp → VK → Prop
noncomputable def PIp (X:Cx) (op:Operator) (t:TIp):Prop :=
 ∀ (pins:List (Addr × Obj)) (s:Shared) (σ:St) (H:Hp) (x y:V) (v u:Value) (Q:VK),Inv X pins σ H s → RelV x v → RelV y u → t x y H Q →
  wpAny (model X.prog X.w) X.A (inplaceOp op v u) (EP X pins σ Q) X.xe s
section
variable {X:Cx} {pos:Pos}
noncomputable def gName (i:Nat):TG:=fun v σ H Q=>Q (σ.set i (some v)) H
theorem pg_name {i:Nat} {x:Str} (hN:X.N.Nodup) (hi:X.N[i]? = some x) (hx:Loc X.env.scope x) (hf:X.fn x = true ∨ X.env.scope.names.lookup x = some .local:=by first | exact .inl rfl | exact .inr rfl | assumption):PG X (.Name x pos) (gName i):=by
 intro pins s σ H v u Q I r h
 exact wpAny_assign_Name (store_ok I hN hi hx r (fun s' I'=>⟨_,H,I',h⟩) hf)
noncomputable def gNil:TGs:=fun vs σ H Q=>vs = [] ∧ Q σ H
noncomputable def gCons (t:TG) (u:TGs):TGs:=fun vs σ H Q=>∃ v r,vs = v :: r ∧ t v σ H fun σ' H'=>u r σ' H' Q
theorem pgs_nil:PGs X [] gNil:=by
 intro pins s σ H vs us Q I r h
 obtain ⟨e,h⟩:=h
 subst e
 cases r
 exact assignInOrder_nil ⟨σ,H,I,h⟩
theorem pgs_cons {e:Expr} {es:List Expr} {t:TG} {u:TGs} (h1:PG X e t) (h2:PGs X es u)
  (hs:(assignEach (e :: es) X.env).map (·.2) = assign e X.env :: (assignEach es X.env).map (·.2):=by rfl):PGs X (e :: es) (gCons t u):=by
 intro pins s σ H vs us Q I r h
 obtain ⟨v,vr,e1,h⟩:=h
 subst e1
 cases r with
 | cons r rr =>
  rw [hs]
  refine assignInOrder_cons (thn (h1 pins s σ H _ _ _ I r h) fun _ s1 ⟨σ1,H1,I1,q1⟩=>?_)
  exact h2 pins s1 σ1 H1 _ _ Q I1 rr q1
noncomputable def gTup (K:PySem.W.Frag) (n:Nat) (t:TGs):TG:=fun v σ H Q=>∃ a xs,v = .ref a ∧ SqT K H a xs ∧ xs.length = n ∧ t xs σ H Q
theorem pg_tup {es:List Expr} {k:Nat} {t:TGs} {n:Nat} (hc:X.calm = true) (h:PGs X es t)
  (hn:(assignEach es X.env).length = n:=by rfl) (hst:(assignEach es X.env).findIdx? (·.1) = none:=by rfl):PG X (.Tuple es k pos) (gTup X.K n t):=by
 intro pins s σ H v u Q I r hw
 obtain ⟨a,xs,e1,hq,hl,hw⟩:=hw
 subst e1
 cases r
 obtain ⟨its,rv,ht,hz⟩:=I.tuple hq
 refine assign_Tuple_tuple (I.ok.hd hc) ht (by simp [hn,← hl,rv.length]) hst fun h' hx=>?_
 have I1:Inv X pins σ H { s with heap:=h' }:=I.kept (t':=s.toks) fun b o e=>hx b o (Nat.ne_of_lt (Heap.lt_size e)) e
 exact h pins _ σ H xs _ Q I1 (by simpa using rv) hw
noncomputable def gSub (to ti:TE) (t:TSet):TG:=fun v σ H Q=>to σ H fun o H1=>ti σ H1 fun i H2=>t o i v H2 fun H3=>Q σ H3
theorem pg_sub {o i:Expr} {to ti:TE} {t:TSet} (ho:PE X o to) (hi:PE X i ti) (hs:PSet X t)
  (ha:∀ v,assign (.Subscript o i pos) X.env v = (do
   let ov ← holding [v] (eval o X.env)
   let iv ← holding [v,ov] (eval i X.env)
   standAt pos
   holding [v,ov,iv] (setItem ov iv v)
   release [v,ov,iv] []):=by intro _; rfl):PG X (.Subscript o i pos) (gSub to ti t):=by
 intro pins s σ H v u Q I r h
 rw [ha]
 refine wpAny_bind (wpAny_holding (thn (ho pins s σ H _ I h) fun ov s1 ⟨x,H1,I1,r1,q1⟩=>?_))
 refine wpAny_bind (wpAny_holding (thn (hi pins s1 σ H1 _ I1 q1) fun iv s2 ⟨y,H2,I2,r2,q2⟩=>?_))
 refine wpAny_bind (wpAny_standAt (wpAny_bind (wpAny_holding (thn (hs pins s2 σ H2 x y v ov iv u _ I2 r1 r2 r q2) fun _ s3 ⟨H3,I3,q3⟩=>?_))))
 exact wpAny_release ⟨σ,H3,I3,q3⟩
noncomputable def tAsg (te:TE) (g:TG):TS:=fun D σ H=>te σ H fun x H1=>g x σ H1 D.nx
theorem ps_asg {tg e:Expr} {te:TE} {g:TG} (he:PE X e te) (hg:PG X tg g) (hs:swapsWithSole [tg] e pos.line X.env = pure false:=by rfl) (hw:swappedStores [tg] e X.env = pure none:=by rfl)
  (h1:(assignEach [tg] X.env).map (·.2) = [assign tg X.env]:=by rfl):PS X (.Assign [tg] e pos) (tAsg te g):=by
 intro pins s σ H D I h
 refine wpAny_Assign_stores (thn (he pins s σ H _ I h) fun v s1 ⟨x,H1,I1,r1,q1⟩=>?_) hs hw
 rw [h1]
 exact thn (hg pins s1 σ H1 x v _ I1 r1 q1) fun _ s2 q=>q
theorem ps_set {i:Nat} {x:Str} {e:Expr} {te:TE} {pos':Pos} (hN:X.N.Nodup) (hi:X.N[i]? = some x) (hx:Loc X.env.scope x) (he:PE X e te) (hs:swapsWith e (some (.Name x pos')) pos.line X.env = pure false:=by rfl) (hf:X.fn x = true ∨ X.env.scope.names.lookup x = some .local:=by first | exact .inl rfl | exact .inr rfl | assumption) :
  PS X (.Assign [.Name x pos'] e pos) (tAsg te (gName i)):=by
 intro pins s σ H D I h
 refine wpAny_Assign_Name (thn (he pins s σ H _ I h) fun v s1 ⟨y,H1,I1,r1,q1⟩=>?_) hs
 exact store_ok I1 hN hi hx r1 (fun s2 I2=>⟨_,H1,I2,q1⟩) hf
noncomputable def tAug (i:Nat) (te:TE) (ti:TIp):TS:=fun D σ H=>∃ x,σ[i]? = some (some x) ∧ te σ H fun y H1=>ti x y H1 fun z H2=>D.nx (σ.set i (some z)) H2
theorem ps_aug {i:Nat} {x:Str} {e:Expr} {te:TE} {op:Operator} {ti:TIp} {pos':Pos} (hN:X.N.Nodup) (hi:X.N[i]? = some x) (hx:Loc X.env.scope x) (he:PE X e te) (ho:PIp X op ti) (hf:X.fn x = true ∨ X.env.scope.names.lookup x = some .local:=by first | exact .inl rfl | exact .inr rfl | assumption) :
  PS X (.AugAssign (.Name x pos') op e pos) (tAug i te ti):=by
 intro pins s σ H D I h
 obtain ⟨v,e1,h⟩:=h
 obtain ⟨m,hn,hl⟩:=I.loc
 have vis:Vis X.env.scope x:=by rcases hx with k | k; exact .inl k; exact .inr (.inl k)
 obtain ⟨u,r,l⟩:=hl i x v hi e1 vis
 refine wpAny_AugAssign_Name ?_
 have go:wpAny (model X.prog X.w) X.A (eval e X.env) (fun w s₂=>wpAny (model X.prog X.w) X.A (inplaceOp op u w) (fun r s₃=>wpAny (model X.prog X.w) X.A (storeName X.env x r) (fun _=>SP X pins D .next) X.xe s₃) X.xe s₂) X.xe s:=by
  refine thn (he pins s σ H _ I h) fun w s1 ⟨y,H1,I1,r1,q1⟩=>?_
  refine thn (ho pins s1 σ H1 v y u w _ I1 r r1 q1) fun z s2 ⟨zv,H2,I2,r2,q2⟩=>?_
  exact store_ok I2 hN hi hx r2 (fun s3 I3=>⟨_,H2,I3,q2⟩) hf
 rcases l with ⟨hk,hm⟩ | ⟨hk,c,hc,hcell⟩
 ·exact wpAny_loadName_local I.ok.kind hk hn hm go
 ·rcases hk with hk | hk
  ·exact wpAny_loadName_cell I.ok.kind hk hc hcell go
  ·rcases hx with k | k
   ·have:X.env.scope.names.lookup x = some .free:=hk
    rw [k] at this; cases this
   ·have:X.env.scope.names.lookup x = some .free:=hk
    rw [k] at this; cases this
noncomputable def ipI (f:Int → Int → Int):TIp:=fun x y H Q=>∃ i j,x = .int i ∧ y = .int j ∧ Q (.int (f i j)) H
theorem ip_add:PIp X .Add (ipI fun i j=>i + j):=by
 intro pins s σ H x y v u Q I r1 r2 h
 obtain ⟨i,j,e1,e2,q⟩:=h
 subst e1; subst e2
 obtain ⟨t,rfl⟩:=r1
 obtain ⟨t',rfl⟩:=r2
 exact iadd_int ⟨.int _,H,I.tok _,⟨_,rfl⟩,q⟩
end
section
variable {X:Cx} {pos:Pos}
noncomputable def tWhile (c:TT) (tb:TS):TS:=fun D σ H=>∃ W:Nat → St → Hp → Prop,(∃ m,W m σ H) ∧ ∀ m σ H,W m σ H →
 c σ H fun b H1=>if b = true then ∃ N:St → Hp → Prop,(∀ σ' H',N σ' H' → ∃ m',m' < m ∧ W m' σ' H') ∧ tb { D with nx:=N,ct:=N,bk:=D.nx } σ H1 else D.nx σ H1
theorem ps_while {c:Expr} {body:List Stmt} {tc:TT} {tb:TS} (hp:PassesOwn (model X.prog X.w) X.A X.env X.xe) (hc:PT X c tc) (hb:PSs X body tb):PS X (.While c body [] pos) (tWhile tc tb):=by
 intro pins s σ H D I h
 obtain ⟨W,⟨m0,w0⟩,turn⟩:=h
 refine wpAny_While (codeAny_whileLoop (fun n s'=>∃ σ' H',Inv X pins σ' H' s' ∧ W n σ' H') ?_ m0 ⟨σ,H,I,w0⟩)
 rintro n s1 ⟨σ1,H1,I1,w1⟩
 refine wpAny_passesOwn hp (thn (hc pins s1 σ1 H1 _ I1 (turn n σ1 H1 w1)) fun b s2 ⟨H2,I2,q2⟩=>?_)
 cases b with
 | true =>
  obtain ⟨N,hN,q2⟩:=q2
  rw [if_pos rfl]
  refine wpAny_passesOwn hp (thn (hb pins s2 σ1 H2 _ I2 q2) fun f s3 q3=>?_)
  cases f with
  | next =>
   obtain ⟨σ3,H3,I3,n3⟩:=q3
   obtain ⟨m',hm,w3⟩:=hN σ3 H3 n3
   exact ⟨m',hm,σ3,H3,I3,w3⟩
  | cont =>
   obtain ⟨σ3,H3,I3,n3⟩:=q3
   obtain ⟨m',hm,w3⟩:=hN σ3 H3 n3
   exact ⟨m',hm,σ3,H3,I3,w3⟩
  | brk=>exact q3
  | ret v=>exact q3
 | false =>
  rw [if_neg Bool.false_ne_true]
  exact wpAny_execs_nil ⟨σ1,H2,I2,q2⟩
end
structure It where
 go:Nat → Hp → Prop
 yld:Nat → Hp → V → Hp → Prop
 stop:Nat → Hp → Prop
noncomputable def FpOk (X:Cx) (pins:List (Addr × Obj)) (H:Hp) (b:Addr):Prop :=
 H b = none ∧ b ≠ X.env.locals ∧ b ∉ X.fs ∧ (b ∈ X.ex ∨ X.s_0.heap.objs.size ≤ b) ∧ (∀ x c,X.env.cells.lookup x = some c → c ≠ b) ∧ ∀ p ∈ X.pn ++ pins,p.1 ≠ b
theorem Inv.fpOk {X:Cx} {pins:List (Addr × Obj)} {σ:St} {H H':Hp} {s:Shared} {b:Addr} (I:Inv X pins σ H s) (hb:s.heap.objs.size ≤ b) (hn:H' b = none):FpOk X pins H' b:=by
 refine ⟨hn,Nat.ne_of_gt (Nat.lt_of_lt_of_le I.lt hb),I.nofs hb,.inr (Nat.le_trans I.sz hb),fun x c e z=>?_,fun p hp z=>?_⟩
 ·obtain ⟨v,q⟩:=I.cell x c e
  exact absurd (Nat.lt_of_lt_of_le q.lt (by rw [z]; exact hb)) (Nat.lt_irrefl _)
 ·exact absurd (Nat.lt_of_lt_of_le (Heap.lt_size (I.pin p hp).1) (by rw [z]; exact hb)) (Nat.lt_irrefl _)
structure Turn (P:Program) (w:World) (K:PySem.W.Frag) (tg:Expr) (J:It) (fp:List Addr) (it:Addr) (tn:Nat → Heap → Prop):Prop where
 mem:it ∈ fp
 obj:∀ i h,tn i h → ∀ b ∈ fp,∃ o,h.get? b = some o ∧ ∀ v,o.data ≠ .cell v
 keep:∀ i h h',tn i h → (∀ b ∈ fp,∀ o,h.get? b = some o → h'.get? b = some o) → tn i h'
 item:∀ (X:Cx),X.prog = P → X.w = w → X.K = K → X.calm = true → ∀ (i:Nat) (pins:List (Addr × Obj)) (s:Shared) (σ:St) (H:Hp) (E:Value → Shared → Prop),Inv X pins σ H s → (∀ b ∈ fp,FpOk X pins H b) → tn i s.heap → J.go i H →
  wpAny (model P w) X.A (pyNext (.ref it)) (fun r s1=>∃ u,r = some u ∧
   wpAny (model P w) X.A (letOwnedTupleGo tg (.ref it) u) (fun _ s2=>∃ x H',Inv X pins σ H' s2 ∧ RelV x u ∧ J.yld i H x H' ∧ tn (i + 1) s2.heap ∧ ∀ b ∈ fp,H' b = none) E s1) E s
 done:∀ (X:Cx),X.prog = P → X.w = w → X.K = K → X.calm = true → ∀ (i:Nat) (pins:List (Addr × Obj)) (s:Shared) (σ:St) (H:Hp) (E:Value → Shared → Prop),Inv X pins σ H s → (∀ b ∈ fp,FpOk X pins H b) → tn i s.heap → J.stop i H →
  wpAny (model P w) X.A (pyNext (.ref it)) (fun r s1=>r = none ∧ Inv X pins σ H s1) E s
 self:∀ (A:Around) (i:Nat) (s:Shared) (Q:Value → Shared → Prop) (E:Value → Shared → Prop),tn i s.heap → Q (.ref it) s → wpAny (model P w) A (pyIter (.ref it)) Q E s
noncomputable abbrev TI:=St → Hp → (It → Hp → Prop) → Prop
noncomputable def PIE (X:Cx) (pins:List (Addr × Obj)) (σ:St) (tg:Expr) (R:It → Hp → Prop) (itv:Value) (s2:Shared):Prop :=
 ∃ (it:Addr) (fp:List Addr) (tn:Nat → Heap → Prop) (J:It) (H':Hp),itv = .ref it ∧ Inv X pins σ H' s2 ∧ Turn X.prog X.w X.K tg J fp it tn ∧ tn 0 s2.heap ∧ (∀ b ∈ fp,FpOk X pins H' b) ∧ R J H'
noncomputable def PI (X:Cx) (tg iter:Expr) (wi:TI):Prop :=
 ∀ (pins:List (Addr × Obj)) (s:Shared) (σ:St) (H:Hp) (R:It → Hp → Prop),Inv X pins σ H s → wi σ H R →
  wpAny (model X.prog X.w) X.A (eval iter X.env) (fun v s1=>wpAny (model X.prog X.w) X.A (pyIter v) (PIE X pins σ tg R) X.xe s1) X.xe s
theorem go_of {M : Model} {A : Around} {E : Value → Shared → Prop} {s : Shared} {tg : Expr} {it : Addr} {u : Value} {o : Obj} {n : String} {vs : Array Value} {Q : Unit → Shared → Prop} (ho : s.heap.get? it = some o) (hc : o.cls = .type n) (hd : o.data = .fields vs)
    (hn : ["enumerate", "zip", "dict_itemiterator", "dict_reverseitemiterator", "odict_iterator", "itertools.zip_longest", "itertools.pairwise"].contains n = false) (hQ : Q () s) : wpAny M A (letOwnedTupleGo tg (.ref it) u) Q E s := by
  unfold letOwnedTupleGo
  cases tg <;> first
    | exact wpAny_pure hQ
    | (cases u <;> first
        | exact wpAny_pure hQ
        | (refine wpAny_bind (wpAny_load ho ?_)
           rw [hc, hd]
           show wpAny M A (if (["enumerate", "zip", "dict_itemiterator", "dict_reverseitemiterator", "odict_iterator", "itertools.zip_longest", "itertools.pairwise"].contains n && vs[0]? == some (rawInt _)) = true then _ else _) Q E s
           rw [if_neg (by intro h; rw [hn, Bool.false_and] at h; cases h)]
           exact wpAny_pure hQ))
noncomputable def Itl (K:PySem.W.Frag) (a:Addr):It :=
 ⟨fun i H=>∃ xs x,SqL K H a xs ∧ xs[i]? = some x,fun i H x H'=>H' = H ∧ ∀ xs,SqL K H a xs → xs[i]? = some x,fun i H=>∃ xs,SqL K H a xs ∧ xs.length ≤ i⟩
noncomputable def Itr (lo:Int) (n:Nat):It:=⟨fun i _=>i < n,fun i H x H'=>H' = H ∧ x = .int (lo + i),fun i _=>n ≤ i⟩
theorem turn_list {P:Program} {w:World} {K:PySem.W.Frag} {tg:Expr} (a it:Addr):Turn P w K tg (Itl K a) [it] it (fun i h=>h.IsListIter it a i) where
 mem:=by simp
 obj:=fun i h st b hb=>by
  have e:b = it:=by simpa using hb
  subst e
  obtain ⟨o,e,c,d⟩:=st
  exact ⟨o,e,fun v z=>by rw [d] at z; cases z⟩
 keep:=fun i h h' st k=>st.at fun o e=>k it (by simp) o e
 item:=by
  intro X hP hw hK hc i pins s σ H E I hf st hg
  subst hP hw hK
  obtain ⟨xs,x,hq,hx⟩:=hg
  obtain ⟨its,rv,p,hz⟩:=I.list hq
  obtain ⟨u,hu,ru⟩:=rv.get hx
  obtain ⟨f0,f1,f2,f3,f4,f5⟩:=hf it (by simp)
  refine wpAny_pyNext_list_item st p.isList (x:=u) (by simpa using hu) fun h' st' sb=>?_
  have I1:Inv X pins σ H { s with heap:=h' }:=I.turned (t':=s.toks) (fun b o hb e=>(sb.2 b hb).trans e) f0 f1 f3 f4 f5
  obtain ⟨o,e,c,d⟩:=id st'
  exact ⟨u,rfl,go_of (s:={ s with heap:=h' }) e c d (by decide) ⟨x,H,I1,ru,⟨rfl,fun ys hy=>by rw [I.list_inj hy hq]; exact hx⟩,st',fun b hb=>(hf b hb).1⟩⟩
 done:=by
  intro X hP hw hK hc i pins s σ H E I hf st hg
  subst hP hw hK
  obtain ⟨xs,hq,hx⟩:=hg
  obtain ⟨its,rv,p,hz⟩:=I.list hq
  obtain ⟨f0,f1,f2,f3,f4,f5⟩:=hf it (by simp)
  have hl:=rv.length
  exact wpAny_pyNext_list_end (I.ok.hd hc) st p.isList (by simp; omega) fun h' eb=>⟨rfl,I.turned (t':=s.toks) (fun b o hb e=>eb b o hb e) f0 f1 f3 f4 f5⟩
 self:=fun _ _ _ _ _ st h=>wpAny_pyIter_listiter st h
theorem turn_range {P:Program} {w:World} {K:PySem.W.Frag} {tg:Expr} (it:Addr) (lo:Int) (n:Nat):Turn P w K tg (Itr lo n) [it] it (fun i h=>IsRangeIter h it (lo + (i:Nat) * 1) ((n:Int) - (i:Nat)) 1) where
 mem:=by simp
 obj:=fun i h st b hb=>by
  have e:b = it:=by simpa using hb
  subst e
  exact ⟨_,st,fun v z=>by
   have z':Data.fields _ = Data.cell v:=z
   cases z'⟩
 keep:=fun i h h' st k=>k it (by simp) _ st
 item:=by
  intro X hP hw hK hc i pins s σ H E I hf st hg
  subst hP hw hK
  obtain ⟨f0,f1,f2,f3,f4,f5⟩:=hf it (by simp)
  have W:=Walks.range (prog:=X.prog) (w:=X.w) (I.ok.hd hc) it lo 1 n
  refine W.item i s _ _ hg st fun v h' tk hv st' kk=>?_
  obtain ⟨t,rfl⟩:=hv
  have I1:Inv X pins σ H { s with heap:=h',toks:=tk }:=I.turned (fun b o hb e=>kk b o (by simpa using hb) e) f0 f1 f3 f4 f5
  refine ⟨_,rfl,go_of (s:={ s with heap:=h',toks:=tk }) (n:="range_iterator") st' rfl rfl (by decide) ⟨.int (lo + i),H,I1,⟨t,?_⟩,⟨rfl,rfl⟩,st',fun b hb=>(hf b hb).1⟩⟩
  rw [Int.mul_one]
 done:=by
  intro X hP hw hK hc i pins s σ H E I hf st hg
  subst hP hw hK
  obtain ⟨f0,f1,f2,f3,f4,f5⟩:=hf it (by simp)
  exact wpAny_pyNext_range_end (I.ok.hd hc) st (by have:n ≤ i:=hg; omega) fun h' eb=>⟨rfl,I.turned (t':=s.toks) (fun b o hb e=>eb b o hb e) f0 f1 f3 f4 f5⟩
 self:=fun _ _ _ _ _ st h=>wpAny_pyIter_rangeiter st h
end L2
namespace L2
open PySem PySem.Spec PyProof.Rows
section
variable {X:Cx} {tg:Expr}
noncomputable def iList (K:PySem.W.Frag) (tl:TE):TI:=fun σ H R=>tl σ H fun x H1=>∃ a,x = .ref a ∧ (∃ xs,SqL K H1 a xs) ∧ R (Itl K a) H1
theorem pi_list {l:Expr} {tl:TE} (hl:PE X l tl):PI X tg l (iList X.K tl):=by
 intro pins s σ H R I h
 refine thn (hl pins s σ H _ I h) fun v s1 ⟨x,H1,I1,r1,q1⟩=>?_
 obtain ⟨a,e,⟨xs,hq⟩,q⟩:=q1
 subst e
 cases r1
 obtain ⟨its,rv,p,hz⟩:=I1.list hq
 refine wpAny_pyIter_list p.isList ?_
 refine ⟨s1.heap.objs.size,[s1.heap.objs.size],_,_,H1,rfl,I1.kept (t':=s1.toks) fun b o e=>Heap.get?_push_of_some _ e,turn_list a _,⟨_,Heap.get?_push_size _ rfl,rfl,rfl⟩,fun b hb=>?_,q⟩
 have e:b = s1.heap.objs.size:=by simpa using hb
 subst e
 exact I1.fpOk (Nat.le_refl _) (I1.hok.fresh (Nat.le_refl _))
theorem range_it {pins:List (Addr × Obj)} {σ:St} {H:Hp} {s:Shared} {R:It → Hp → Prop} {E:Value → Shared → Prop} {lo hi:Int} {t u v:Tok} {tk:Nat} (I:Inv X pins σ H s) (h1:-(2 ^ 62) ≤ lo) (h2:lo < 2 ^ 62) (h3:-(2 ^ 62) ≤ hi) (h4:hi < 2 ^ 62)
  (q:R (Itr lo (hi - lo).toNat) H):wpAny (model X.prog X.w) X.A (pyIter (.ref s.heap.objs.size)) (PIE X pins σ tg R) E { s with heap:=s.heap.push { cls:=.type "range",data:=.fields #[.int lo t,.int hi u,.int 1 v] },toks:=tk }:=by
 refine wpAny_pyIter_range (IsRange.new ..) (small_one h1 h2 h3 h4) ?_
 have I1:Inv X pins σ H { s with heap:=s.heap.push { cls:=.type "range",data:=.fields #[.int lo t,.int hi u,.int 1 v] },toks:=tk }:=I.kept fun b o e=>Heap.get?_push_of_some _ e
 refine ⟨(s.heap.push { cls:=.type "range",data:=.fields #[.int lo t,.int hi u,.int 1 v] }).objs.size,[(s.heap.push { cls:=.type "range",data:=.fields #[.int lo t,.int hi u,.int 1 v] }).objs.size],_,_,H,rfl,
  I1.kept (t':=tk) fun b o e=>Heap.get?_push_of_some _ e,turn_range _ lo (hi - lo).toNat,?_,fun b hb=>?_,q⟩
 ·have e1:lo + ((0:Nat):Int) * 1 = lo:=by simp
  have e2:(((hi - lo).toNat:Nat):Int) - ((0:Nat):Int) = Builtin.Range.rangeSize lo hi 1:=by rw [rangeSize_one]; split <;> omega
  show IsRangeIter _ _ (lo + ((0:Nat):Int) * 1) ((((hi - lo).toNat:Nat):Int) - ((0:Nat):Int)) 1
  rw [e1,e2]
  exact Heap.get?_push_size _ rfl
 ·have e:b = (s.heap.push { cls:=.type "range",data:=.fields #[.int lo t,.int hi u,.int 1 v] }).objs.size:=by simpa using hb
  subst e
  exact I1.fpOk (Nat.le_refl _) (I1.hok.fresh (Nat.le_refl _))
noncomputable def iRng1 (ta:TA):TI:=fun σ H R=>ta σ H fun vs H1=>∃ j:Int,vs = [.int j] ∧ -(2 ^ 62) ≤ j ∧ j < 2 ^ 62 ∧ R (Itr 0 j.toNat) H1
theorem pi_range1 {a:Expr} {ta:TA} {p pos:Pos} (hg:Gl X "range") (hm:X.mg "range" = none) (ha:PA X [a] ta) (hs:starEach [a] X.env = [(false,eval a X.env)]:=by rfl):PI X tg (.Call (.Name "range" p) [a] [] pos) (iRng1 ta):=by
 intro pins s σ H R I h
 refine Call_ (ld_blt I hg hm boot_range (PyProof.Rows.callWith_type1 (thn (ha pos pins s σ H _ I h) fun us s1 ⟨vs,H1,I1,r1,q1⟩=>?_) hs rfl))
 obtain ⟨j,e,q1,q2,q⟩:=q1
 subst e
 cases r1 with
 | cons r rr =>
  cases rr
  obtain ⟨t,rfl⟩:=r
  exact call_range_1 (range_it I1 (by omega) (by omega) q1 q2 (by simpa using q))
noncomputable def tFor (wi:TI) (g:TG) (tb:TS):TS:=fun D σ H=>wi σ H fun J H1=>∃ W:Nat → Nat → St → Hp → Prop,(∃ m,W 0 m σ H1) ∧ ∀ i m σ H,W i m σ H →
 (J.stop i H ∧ D.nx σ H) ∨ (J.go i H ∧ ∃ N:St → Hp → Prop,(∀ σ' H',N σ' H' → ∃ m',m' < m ∧ W (i + 1) m' σ' H') ∧ ∀ x H',J.yld i H x H' → g x σ H' fun σ2 H2=>tb { D with nx:=N,ct:=N,bk:=D.nx } σ2 H2)
noncomputable def pinsAt (fp:List Addr) (h:Heap):List (Addr × Obj):=fp.filterMap fun b=>(h.get? b).map fun o=>(b,o)
theorem mem_pinsAt {fp:List Addr} {h:Heap} {b:Addr} {o:Obj} (hb:b ∈ fp) (e:h.get? b = some o):(b,o) ∈ pinsAt fp h:=List.mem_filterMap.mpr ⟨b,hb,by rw [e]; rfl⟩
theorem of_pinsAt {fp:List Addr} {h:Heap} {p:Addr × Obj} (hp:p ∈ pinsAt fp h):p.1 ∈ fp ∧ h.get? p.1 = some p.2:=by
 obtain ⟨b,hb,e⟩:=List.mem_filterMap.mp hp
 cases q:h.get? b with
 | none=>rw [q] at e; cases e
 | some o =>
  rw [q] at e
  have e':(b,o) = p:=Option.some.inj e
  subst e'
  exact ⟨hb,q⟩
theorem Inv.pinned {pins:List (Addr × Obj)} {σ:St} {H:Hp} {s:Shared} {fp:List Addr} (I:Inv X pins σ H s) (hf:∀ b ∈ fp,FpOk X pins H b) (ho:∀ b ∈ fp,∃ o,s.heap.get? b = some o ∧ ∀ v,o.data ≠ .cell v):Inv X (pins ++ pinsAt fp s.heap) σ H s :=
 I.pins_of fun p hp=>(List.mem_append.mp hp).elim (fun z=>I.pin p (List.mem_append_right _ z)) fun z=>by
  obtain ⟨hb,e⟩:=of_pinsAt z
  obtain ⟨f0,f1,f2,_⟩:=hf p.1 hb
  obtain ⟨o,e',d⟩:=ho p.1 hb
  rw [e] at e'; cases e'
  exact ⟨e,f0,f1,f2,d⟩
theorem Inv.unpinned {pins pl:List (Addr × Obj)} {σ:St} {H:Hp} {s:Shared} (I:Inv X (pins ++ pl) σ H s):Inv X pins σ H s:=I.pins_of fun p hp=>I.pin p (List.mem_append_right _ (List.mem_append_left _ hp))
theorem ps_for {iter:Expr} {body:List Stmt} {wi:TI} {g:TG} {tb:TS} {pos:Pos} (hp:PassesOwn (model X.prog X.w) X.A X.env X.xe) (hc:X.calm = true) (hi:PI X tg iter wi) (hg:PG X tg g) (hb:PSs X body tb)
  (hs:∀ x,foldedSetIterable iter X.env x = pure x:=by intro _; rfl):PS X (.For tg iter body [] pos) (tFor wi g tb):=by
 intro pins s σ H D I h
 refine wpAny_For (thn (hi pins s σ H _ I h) fun v s1 h1=>thn h1 fun itv s2 h2=>?_) hs
 obtain ⟨it,fp,tn,J,H2,e,I2,T,st2,f2,W,⟨m0,w0⟩,turn⟩:=h2
 subst e
 have stat:∀ {H':Hp},(∀ b ∈ fp,H' b = none) → ∀ b ∈ fp,FpOk X pins H' b:=fun hn b hb=>⟨hn b hb,(f2 b hb).2⟩
 refine codeAny_forLoop_any (fun n s'=>∃ i σ' H',Inv X pins σ' H' s' ∧ tn i s'.heap ∧ (∀ b ∈ fp,H' b = none) ∧ W i n σ' H') ?_ m0 ⟨0,σ,H2,I2,st2,fun b hb=>(f2 b hb).1,w0⟩
 rintro n s3 ⟨i,σ3,H3,I3,st3,fr3,w3⟩
 rcases turn i n σ3 H3 w3 with ⟨stop,qn⟩ | ⟨go,N,hN,step⟩
 ·refine wpAny_passesOwn hp (thn (T.done X rfl rfl rfl hc i pins s3 σ3 H3 X.xe I3 (stat fr3) st3 stop) fun r s4 ⟨hr,I4⟩=>?_)
  subst hr
  exact wpAny_execs_nil ⟨σ3,H3,I4,qn⟩
 ·refine wpAny_passesOwn hp (thn (T.item X rfl rfl rfl hc i pins s3 σ3 H3 X.xe I3 (stat fr3) st3 go) fun r s4 ⟨u,hr,h4⟩=>?_)
  subst hr
  refine wpAny_passesOwn hp (thn h4 fun _ s5 ⟨x,H5,I5,r5,y5,st5,fr5⟩=>?_)
  have I5':=I5.pinned (stat fr5) (T.obj _ _ st5)
  refine wpAny_passesOwn hp (thn (hg _ s5 σ3 H5 x u _ I5' r5 (step x H5 y5)) fun _ s6 ⟨σ6,H6,I6,q6⟩=>?_)
  refine wpAny_passesOwn hp (thn (hb _ s6 σ6 H6 _ I6 q6) fun f s7 q7=>?_)
  have again:∀ {σ7:St} {H7:Hp},Inv X (pins ++ pinsAt fp s5.heap) σ7 H7 s7 → N σ7 H7 → ∃ m,m < n ∧ ∃ i σ' H',Inv X pins σ' H' s7 ∧ tn i s7.heap ∧ (∀ b ∈ fp,H' b = none) ∧ W i m σ' H':=fun {σ7 H7} I7 n7=>by
   obtain ⟨m',hm,w7⟩:=hN σ7 H7 n7
   refine ⟨m',hm,i + 1,σ7,H7,I7.unpinned,T.keep _ _ _ st5 fun b hb o e=>(I7.pin (b,o) (List.mem_append_right _ (List.mem_append_right _ (mem_pinsAt hb e)))).1,fun b hb=>?_,w7⟩
   obtain ⟨o,e,d⟩:=T.obj _ _ st5 b hb
   exact (I7.pin (b,o) (List.mem_append_right _ (List.mem_append_right _ (mem_pinsAt hb e)))).2.1
  cases f with
  | next=>obtain ⟨σ7,H7,I7,n7⟩:=q7; exact again I7 n7
  | cont=>obtain ⟨σ7,H7,I7,n7⟩:=q7; exact again I7 n7
  | brk=>obtain ⟨σ7,H7,I7,q7⟩:=q7; exact ⟨σ7,H7,I7.unpinned,q7⟩
  | ret v=>obtain ⟨x7,σ7,H7,I7,r7,q7⟩:=q7; exact ⟨x7,σ7,H7,I7.unpinned,r7,q7⟩
end
theorem for_list {K:PySem.W.Frag} {a:Addr} {xs:List V} {g:TG} {tb:TS} {D:Ends} {σ:St} {H:Hp} (Pv:Nat → St → Hp → Prop) (h0:Pv 0 σ H) (hl:∀ i σ H,i ≤ xs.length → Pv i σ H → SqL K H a xs)
  (hs:∀ i x σ H,xs[i]? = some x → Pv i σ H → g x σ H fun σ2 H2=>tb { D with nx:=Pv (i + 1),ct:=Pv (i + 1),bk:=D.nx } σ2 H2) (hd:∀ σ H,Pv xs.length σ H → D.nx σ H) :
  ∃ W:Nat → Nat → St → Hp → Prop,(∃ m,W 0 m σ H) ∧ ∀ i m σ H,W i m σ H →
   ((Itl K a).stop i H ∧ D.nx σ H) ∨ ((Itl K a).go i H ∧ ∃ N:St → Hp → Prop,(∀ σ' H',N σ' H' → ∃ m',m' < m ∧ W (i + 1) m' σ' H') ∧ ∀ x H',(Itl K a).yld i H x H' → g x σ H' fun σ2 H2=>tb { D with nx:=N,ct:=N,bk:=D.nx } σ2 H2):=by
 refine ⟨fun i m σ H=>m = xs.length - i ∧ i ≤ xs.length ∧ Pv i σ H,⟨xs.length,by simp,Nat.zero_le _,h0⟩,?_⟩
 rintro i m σ H ⟨rfl,hi,p⟩
 have q:=hl i σ H hi p
 by_cases hlt:i < xs.length
 ·refine .inr ⟨⟨xs,xs[i],q,by simp [hlt]⟩,Pv (i + 1),fun σ' H' p'=>⟨xs.length - (i + 1),by omega,rfl,hlt,p'⟩,fun x H' y=>?_⟩
  obtain ⟨e,y⟩:=y
  subst e
  exact hs i x σ _ (y xs q) p
 ·have e:i = xs.length:=by omega
  subst e
  exact .inl ⟨⟨xs,q,Nat.le_refl _⟩,hd σ H p⟩
theorem for_range {lo:Int} {n:Nat} {g:TG} {tb:TS} {D:Ends} {σ:St} {H:Hp} (Pv:Nat → St → Hp → Prop) (h0:Pv 0 σ H)
  (hs:∀ i σ H,i < n → Pv i σ H → g (.int (lo + i)) σ H fun σ2 H2=>tb { D with nx:=Pv (i + 1),ct:=Pv (i + 1),bk:=D.nx } σ2 H2) (hd:∀ σ H,Pv n σ H → D.nx σ H) :
  ∃ W:Nat → Nat → St → Hp → Prop,(∃ m,W 0 m σ H) ∧ ∀ i m σ H,W i m σ H →
   ((Itr lo n).stop i H ∧ D.nx σ H) ∨ ((Itr lo n).go i H ∧ ∃ N:St → Hp → Prop,(∀ σ' H',N σ' H' → ∃ m',m' < m ∧ W (i + 1) m' σ' H') ∧ ∀ x H',(Itr lo n).yld i H x H' → g x σ H' fun σ2 H2=>tb { D with nx:=N,ct:=N,bk:=D.nx } σ2 H2):=by
 refine ⟨fun i m σ H=>m = n - i ∧ i ≤ n ∧ Pv i σ H,⟨n,by simp,Nat.zero_le _,h0⟩,?_⟩
 rintro i m σ H ⟨rfl,hi,p⟩
 by_cases hlt:i < n
 ·refine .inr ⟨hlt,Pv (i + 1),fun σ' H' p'=>⟨n - (i + 1),by omega,rfl,hlt,p'⟩,fun x H' y=>?_⟩
  obtain ⟨e,y⟩:=y
  subst e y
  exact hs i σ _ hlt p
 ·have e:i = n:=by omega
  subst e
  exact .inl ⟨Nat.le_refl _,hd σ H p⟩
end L2
namespace L2
open PySem PySem.Spec PyProof.Rows
noncomputable abbrev R2:=V → V → Hp → VK → Prop
noncomputable def OpR (X:Cx) (f:Value → Value → Sem Value) (r:R2):Prop :=
 ∀ (pins:List (Addr × Obj)) (s:Shared) (σ:St) (H:Hp) (x y:V) (v u:Value) (Q:VK),Inv X pins σ H s → RelV x v → RelV y u → r x y H Q →
  wpAny (model X.prog X.w) X.A (f v u) (EP X pins σ Q) X.xe s
noncomputable def UnR (X:Cx) (f:Value → Sem Value) (r:V → Hp → VK → Prop):Prop :=
 ∀ (pins:List (Addr × Obj)) (s:Shared) (σ:St) (H:Hp) (x:V) (v:Value) (Q:VK),Inv X pins σ H s → RelV x v → r x H Q →
  wpAny (model X.prog X.w) X.A (f v) (EP X pins σ Q) X.xe s
noncomputable def CallR (X:Cx) (f:Value) (r:List V → Hp → VK → Prop):Prop :=
 ∀ (pins:List (Addr × Obj)) (s:Shared) (σ:St) (H:Hp) (xs:List V) (us:List Value) (Q:VK),Inv X pins σ H s → Vals xs us → r xs H Q →
  wpAny (model X.prog X.w) X.A (call f us) (EP X pins σ Q) X.xe s
noncomputable def TruR (X:Cx) (r:V → Hp → (Bool → Hp → Prop) → Prop):Prop :=
 ∀ (pins:List (Addr × Obj)) (s:Shared) (σ:St) (H:Hp) (x:V) (v:Value) (Q:Bool → Hp → Prop),Inv X pins σ H s → RelV x v → r x H Q →
  wpAny (model X.prog X.w) X.A (truthy v) (TP X pins σ Q) X.xe s
noncomputable def tOp (r:R2) (ta tb:TE):TE:=fun σ H Q=>ta σ H fun x H1=>tb σ H1 fun y H2=>r x y H2 Q
noncomputable def tUn (r:V → Hp → VK → Prop) (ta:TE):TE:=fun σ H Q=>ta σ H fun x H1=>r x H1 Q
noncomputable def rI (C:Int → Int → Prop) (g:Int → Int → V):R2:=fun x y H Q=>∃ i j,x = .int i ∧ y = .int j ∧ C i j ∧ Q (g i j) H
noncomputable def rI0 (g:Int → Int → V):R2:=fun x y H Q=>∃ i j,x = .int i ∧ y = .int j ∧ Q (g i j) H
noncomputable def rU (g:Int → V):V → Hp → VK → Prop:=fun x H Q=>∃ i,x = .int i ∧ Q (g i) H
section
variable {X:Cx} {a b c:Expr} {ta tb tc:TE} {pos:Pos}
theorem binT (ha:PE X a ta) (hb:PE X b tb) {pins:List (Addr × Obj)} {s:Shared} {σ:St} {H:Hp} {R:V → V → Hp → Prop} (I:Inv X pins σ H s)
  (h:ta σ H fun x H1=>tb σ H1 fun y H2=>R x y H2) {Q:Value → Shared → Prop} {f:Value → Value → Sem Value}
  (hf:∀ v u s2 x y H2,Inv X pins σ H2 s2 → RelV x v → RelV y u → R x y H2 → wpAny (model X.prog X.w) X.A (f v u) Q X.xe s2) :
  wpAny (model X.prog X.w) X.A (eval a X.env) (fun v s₁=>wpAny (model X.prog X.w) X.A (eval b X.env) (fun u s₂=>wpAny (model X.prog X.w) X.A (f v u) Q X.xe s₂) X.xe s₁) X.xe s:=by
 refine thn (ha pins s σ H _ I h) fun v s1 ⟨x,H1,I1,r1,q1⟩=>?_
 refine thn (hb pins s1 σ H1 _ I1 q1) fun u s2 ⟨y,H2,I2,r2,q2⟩=>?_
 exact hf v u s2 x y H2 I2 r1 r2 q2
theorem pe_op {op:Operator} {r:R2} (ho:OpR X (binaryOp op) r) (ha:PE X a ta) (hb:PE X b tb):PE X (.BinOp a op b pos) (tOp r ta tb):=by
 intro pins s σ H Q I h
 exact wpAny_BinOp (binT ha hb I h fun v u s2 x y H2 I2 rx ry q=>ho pins s2 σ H2 x y v u Q I2 rx ry q)
theorem pe_un {op:UnaryOp} {r:V → Hp → VK → Prop} (ho:UnR X (unaryOp op) r) (ha:PE X a ta):PE X (.UnaryOp op a pos) (tUn r ta):=by
 intro pins s σ H Q I h
 exact UnaryOp_ (thn (ha pins s σ H _ I h) fun v s1 ⟨x,H1,I1,r1,q1⟩=>ho pins s1 σ H1 x v Q I1 r1 q1)
theorem opI {f:Value → Value → Sem Value} {C:Int → Int → Prop} {g:Int → Int → Int}
  (rule:∀ (i j:Int) (t u:Tok) (s:Shared) (Q:Value → Shared → Prop) (E:Value → Shared → Prop),C i j → Q (.int (g i j) s.toks) { s with toks:=s.toks + 1 } → wpAny (model X.prog X.w) X.A (f (.int i t) (.int j u)) Q E s) :
  OpR X f (rI C fun i j=>.int (g i j)):=by
 intro pins s σ H x y v u Q I rx ry h
 obtain ⟨i,j,rfl,rfl,hc,q⟩:=h
 obtain ⟨t,rfl⟩:=rx
 obtain ⟨t',rfl⟩:=ry
 exact rule i j t t' s _ _ hc ⟨.int (g i j),H,I.tok _,⟨_,rfl⟩,q⟩
theorem opI0 {f:Value → Value → Sem Value} {g:Int → Int → Int}
  (rule:∀ (i j:Int) (t u:Tok) (s:Shared) (Q:Value → Shared → Prop) (E:Value → Shared → Prop),Q (.int (g i j) s.toks) { s with toks:=s.toks + 1 } → wpAny (model X.prog X.w) X.A (f (.int i t) (.int j u)) Q E s) :
  OpR X f (rI0 fun i j=>.int (g i j)):=by
 intro pins s σ H x y v u Q I rx ry h
 obtain ⟨i,j,rfl,rfl,q⟩:=h
 obtain ⟨t,rfl⟩:=rx
 obtain ⟨t',rfl⟩:=ry
 exact rule i j t t' s _ _ ⟨.int (g i j),H,I.tok _,⟨_,rfl⟩,q⟩
theorem opB0 {f:Value → Value → Sem Value} {g:Int → Int → Bool}
  (rule:∀ (i j:Int) (t u:Tok) (s:Shared) (Q:Value → Shared → Prop) (E:Value → Shared → Prop),Q (.bool (g i j)) s → wpAny (model X.prog X.w) X.A (f (.int i t) (.int j u)) Q E s) :
  OpR X f (rI0 fun i j=>.bl (g i j)):=by
 intro pins s σ H x y v u Q I rx ry h
 obtain ⟨i,j,rfl,rfl,q⟩:=h
 obtain ⟨t,rfl⟩:=rx
 obtain ⟨t',rfl⟩:=ry
 exact rule i j t t' s _ _ ⟨.bl (g i j),H,I,rfl,q⟩
noncomputable def CDiv (i j:Int):Prop:=0 < j ∧ j < 1073741824
noncomputable def CMul (i j:Int):Prop:=(-(2 ^ 64) < i ∧ i < 2 ^ 64) ∨ (-(2 ^ 64) < j ∧ j < 2 ^ 64)
theorem CMul.ok {i j:Int} (h:CMul i j):IntMulOk i j:=by
 rcases h with ⟨h1,h2⟩ | ⟨h1,h2⟩
 ·exact .of_left (intBits_le_64 h1 h2)
 ·exact .of_right (intBits_le_64 h1 h2)
theorem op_add:OpR X (binaryOp .Add) (rI0 fun i j=>.int (i + j)):=opI0 fun _ _ _ _ _ _ _ q=>add_int q
theorem op_sub:OpR X (binaryOp .Sub) (rI0 fun i j=>.int (i - j)):=opI0 fun _ _ _ _ _ _ _ q=>sub_int q
theorem op_mul:OpR X (binaryOp .Mult) (rI CMul fun i j=>.int (i * j)):=opI fun _ _ _ _ _ _ _ hc q=>mul_int q hc.ok
theorem op_fdiv:OpR X (binaryOp .FloorDiv) (rI CDiv fun i j=>.int (i / j)):=opI fun i j _ _ _ _ _ hc q=>by
 have h1:(0:Int) < j:=hc.1
 have h2:j < 1073741824:=hc.2
 exact floordiv_int (by omega) (by rw [Int.fdiv_eq_ediv_of_nonneg i (by omega)]; exact q) (.inl (PyProof.noPylong_small (by omega)))
theorem op_mod:OpR X (binaryOp .Mod) (rI (fun _ j=>0 < j) fun i j=>.int (i % j)):=opI fun i j _ _ _ _ _ hc q=>by
 have h1:(0:Int) < j:=hc
 exact mod_int' (by omega) (by rw [Int.fmod_eq_emod_of_nonneg i (by omega)]; exact q)
theorem unI {f:Value → Sem Value} {g:Int → Int}
  (rule:∀ (i:Int) (t:Tok) (s:Shared) (Q:Value → Shared → Prop) (E:Value → Shared → Prop),Q (.int (g i) s.toks) { s with toks:=s.toks + 1 } → wpAny (model X.prog X.w) X.A (f (.int i t)) Q E s) :
  UnR X f (rU fun i=>.int (g i)):=by
 intro pins s σ H x v Q I rx h
 obtain ⟨i,rfl,q⟩:=h
 obtain ⟨t,rfl⟩:=rx
 exact rule i t s _ _ ⟨.int (g i),H,I.tok _,⟨_,rfl⟩,q⟩
theorem un_neg:UnR X (unaryOp .USub) (rU fun i=>.int (-i)):=unI fun _ _ _ _ _ q=>neg_int q
end
noncomputable def scal:V → V → Bool
 | .non,.non=>true | .non,.int _=>true | .int _,.non=>true | .non,.bl _=>true | .bl _,.non=>true | .non,.str _=>true | .str _,.non=>true
 | .int _,.int _=>true | .bl _,.bl _=>true | .str _,.str _=>true | .byt _,.byt _=>true
 | .int _,.str _=>true | .str _,.int _=>true | .bl _,.str _=>true | .str _,.bl _=>true
 | _,_=>false
noncomputable def rEq:R2:=fun x y H Q=>scal x y = true ∧ Q (.bl (decide (x = y))) H
noncomputable def rNe:R2:=fun x y H Q=>scal x y = true ∧ Q (.bl (!decide (x = y))) H
theorem dec_int {i j:Int}:decide (V.int i = V.int j) = (i == j):=by
 rw [Bool.eq_iff_iff]
 simp
theorem dec_bl {i j:Bool}:decide (V.bl i = V.bl j) = (i == j):=by
 rw [Bool.eq_iff_iff]
 simp
theorem dec_str {i j:Str}:decide (V.str i = V.str j) = (i == j):=by
 rw [Bool.eq_iff_iff]
 simp
theorem dec_byt {i j:Array UInt8}:decide (V.byt i = V.byt j) = (i.toList == j.toList):=by
 rw [Bool.eq_iff_iff]
 cases i
 cases j
 simp
section
variable {X:Cx} {a b c:Expr} {ta tb tc:TE} {pos:Pos}
theorem fin_bl {pins:List (Addr × Obj)} {σ:St} {H:Hp} {s:Shared} {Q:VK} {k k':Bool} (I:Inv X pins σ H s) (q:Q (.bl k) H) (e:k = k'):EP X pins σ Q (.bool k') s:=by
 subst e
 exact ⟨.bl k,H,I,rfl,q⟩
theorem op_eq:OpR X (compareOp .Eq) rEq:=by
 intro pins s σ H x y v u Q I rx ry h
 obtain ⟨hs,q⟩:=h
 cases x with
 | non =>
  cases rx
  cases y with
  | non=>cases ry; exact PySem.EqNone.eq_none_none (fin_bl I q (by simp))
  | bl j=>cases ry; exact PySem.EqNone.eq_none_bool (fin_bl I q (by simp))
  | int j=>obtain ⟨t',rfl⟩:=ry; exact PySem.EqNone.eq_none_int (fin_bl I q (by simp))
  | str j=>obtain ⟨t',rfl⟩:=ry; exact PySem.EqNone.eq_none_str (fin_bl I q (by simp))
  | _=>exact absurd (show false = true from hs) Bool.false_ne_true
 | bl i =>
  cases rx
  cases y with
  | non=>cases ry; exact PySem.EqNone.eq_bool_none (fin_bl I q (by simp))
  | bl j=>cases ry; exact eq_bool (fin_bl I q dec_bl)
  | str j=>obtain ⟨t',rfl⟩:=ry; exact PySem.EqMixed.eq_bool_str (fin_bl I q (by simp))
  | _=>exact absurd (show false = true from hs) Bool.false_ne_true
 | int i =>
  obtain ⟨t,rfl⟩:=rx
  cases y with
  | non=>cases ry; exact PySem.EqNone.eq_int_none (fin_bl I q (by simp))
  | int j=>obtain ⟨t',rfl⟩:=ry; exact eq_int (fin_bl I q dec_int)
  | str j=>obtain ⟨t',rfl⟩:=ry; exact PySem.EqMixed.eq_int_str (fin_bl I q (by simp))
  | _=>exact absurd (show false = true from hs) Bool.false_ne_true
 | str i =>
  obtain ⟨t,rfl⟩:=rx
  cases y with
  | non=>cases ry; exact PySem.EqNone.eq_str_none (fin_bl I q (by simp))
  | bl j=>cases ry; exact PySem.EqMixed.eq_str_bool (fin_bl I q (by simp))
  | int j=>obtain ⟨t',rfl⟩:=ry; exact PySem.EqMixed.eq_str_int (fin_bl I q (by simp))
  | str j=>obtain ⟨t',rfl⟩:=ry; exact eq_str (fin_bl I q dec_str)
  | _=>exact absurd (show false = true from hs) Bool.false_ne_true
 | byt i =>
  obtain ⟨t,rfl⟩:=rx
  cases y with
  | byt j=>obtain ⟨t',rfl⟩:=ry; exact PySem.W.eq_bytes (fin_bl I q dec_byt)
  | _=>exact absurd (show false = true from hs) Bool.false_ne_true
 | _=>cases y <;> exact absurd (show false = true from hs) Bool.false_ne_true
theorem op_ne:OpR X (compareOp .NotEq) rNe:=by
 intro pins s σ H x y v u Q I rx ry h
 obtain ⟨hs,q⟩:=h
 cases x with
 | non =>
  cases rx
  cases y with
  | non=>cases ry; exact PySem.EqNone.ne_none_none (fin_bl I q (by simp))
  | bl j=>cases ry; exact PySem.EqNone.ne_none_bool (fin_bl I q (by simp))
  | int j=>obtain ⟨t',rfl⟩:=ry; exact PySem.EqNone.ne_none_int (fin_bl I q (by simp))
  | str j=>obtain ⟨t',rfl⟩:=ry; exact PySem.EqNone.ne_none_str (fin_bl I q (by simp))
  | _=>exact absurd (show false = true from hs) Bool.false_ne_true
 | bl i =>
  cases rx
  cases y with
  | non=>cases ry; exact PySem.EqNone.ne_bool_none (fin_bl I q (by simp))
  | bl j=>cases ry; exact ne_bool (fin_bl I q (congrArg not dec_bl))
  | str j=>obtain ⟨t',rfl⟩:=ry; exact PySem.EqMixed.ne_bool_str (fin_bl I q (by simp))
  | _=>exact absurd (show false = true from hs) Bool.false_ne_true
 | int i =>
  obtain ⟨t,rfl⟩:=rx
  cases y with
  | non=>cases ry; exact PySem.EqNone.ne_int_none (fin_bl I q (by simp))
  | int j=>obtain ⟨t',rfl⟩:=ry; exact ne_int (fin_bl I q (congrArg not dec_int))
  | str j=>obtain ⟨t',rfl⟩:=ry; exact PySem.EqMixed.ne_int_str (fin_bl I q (by simp))
  | _=>exact absurd (show false = true from hs) Bool.false_ne_true
 | str i =>
  obtain ⟨t,rfl⟩:=rx
  cases y with
  | non=>cases ry; exact PySem.EqNone.ne_str_none (fin_bl I q (by simp))
  | bl j=>cases ry; exact PySem.EqMixed.ne_str_bool (fin_bl I q (by simp))
  | int j=>obtain ⟨t',rfl⟩:=ry; exact PySem.EqMixed.ne_str_int (fin_bl I q (by simp))
  | str j=>obtain ⟨t',rfl⟩:=ry; exact ne_str (fin_bl I q (congrArg not dec_str))
  | _=>exact absurd (show false = true from hs) Bool.false_ne_true
 | byt i =>
  obtain ⟨t,rfl⟩:=rx
  cases y with
  | byt j=>obtain ⟨t',rfl⟩:=ry; exact PySem.W.ne_bytes (fin_bl I q (congrArg not dec_byt))
  | _=>exact absurd (show false = true from hs) Bool.false_ne_true
 | _=>cases y <;> exact absurd (show false = true from hs) Bool.false_ne_true
theorem op_lt:OpR X (compareOp .Lt) (rI0 fun i j=>.bl (decide (i < j))):=opB0 fun _ _ _ _ _ _ _ q=>lt_int q
theorem op_le:OpR X (compareOp .LtE) (rI0 fun i j=>.bl (decide (i ≤ j))):=opB0 fun _ _ _ _ _ _ _ q=>le_int q
theorem op_gt:OpR X (compareOp .Gt) (rI0 fun i j=>.bl (decide (j < i))):=opB0 fun _ _ _ _ _ _ _ q=>gt_int q
theorem op_isN:OpR X (compareOp .Is) (fun x y H Q=>y = .non ∧ Q (.bl (decide (x = .non))) H):=by
 intro pins s σ H x y v u Q I rx ry h
 obtain ⟨rfl,q⟩:=h
 cases ry
 refine is_none_gen (fin_bl I q ?_)
 cases x <;> first
  | (cases rx; rfl)
  | (obtain ⟨t,rfl⟩:=rx; rfl)
theorem op_notN:OpR X (compareOp .IsNot) (fun x y H Q=>y = .non ∧ Q (.bl (!decide (x = .non))) H):=by
 intro pins s σ H x y v u Q I rx ry h
 obtain ⟨rfl,q⟩:=h
 cases ry
 refine isnot_none_gen (fin_bl I q ?_)
 cases x <;> first
  | (cases rx; rfl)
  | (obtain ⟨t,rfl⟩:=rx; rfl)
theorem nomark (b:Expr) {op:CmpOp} (h:op ≠ .In:=by decide) (h2:op ≠ .NotIn:=by decide):behindInMarks op b = false:=by
 have e1:(op == CmpOp.In) = false:=by cases op <;> first | rfl | exact absurd rfl h
 have e2:(op == CmpOp.NotIn) = false:=by cases op <;> first | rfl | exact absurd rfl h2
 cases b <;> simp [behindInMarks,e1,e2]
theorem pe_cmpR {op:CmpOp} {r:R2} (ho:OpR X (compareOp op) r) (ha:PE X a ta) (hb:PE X b tb) (hm:behindInMarks op b = false):PE X (.Compare a [op] [b] pos) (tOp r ta tb):=by
 intro pins s σ H Q I h
 exact wpAny_Compare1 (binT ha hb I h fun v u s2 x y H2 I2 rx ry q=>ho pins s2 σ H2 x y v u Q I2 rx ry q) hm
noncomputable def tTest (t:TE):TT:=fun σ H Q=>t σ H fun x H'=>∃ k,x = .bl k ∧ Q k H'
theorem pt_cmpR {op:CmpOp} {r:R2} (ho:OpR X (compareOp op) r) (ha:PE X a ta) (hb:PE X b tb) (hm:behindInMarks op b = false):PT X (.Compare a [op] [b] pos) (tTest (tOp r ta tb)):=by
 intro pins s σ H Q I h
 refine wpAny_isTrue_Compare1 (thn (ha pins s σ H _ I h) fun v s1 ⟨x,H1,I1,r1,q1⟩=>thn (hb pins s1 σ H1 _ I1 q1) fun u s2 ⟨y,H2,I2,r2,q2⟩ =>
  thn (ho pins s2 σ H2 x y v u _ I2 r1 r2 q2) fun c s3 ⟨z,H3,I3,r3,k,e,q3⟩=>?_) hm
 subst e
 cases r3
 exact wpAny_truthy_bool ⟨H3,I3,q3⟩
noncomputable def tChain (r r':R2) (ta tb tc:TE):TE:=fun σ H Q=>ta σ H fun x H1=>tb σ H1 fun y H2=>r x y H2 fun z H3=>∃ k,z = .bl k ∧
 (if k = true then tc σ H3 fun w' H4=>r' y w' H4 Q else Q (.bl false) H3)
theorem pe_chain {op op':CmpOp} {r r':R2} (ho:OpR X (compareOp op) r) (ho':OpR X (compareOp op') r') (ha:PE X a ta) (hb:PE X b tb) (hc:PE X c tc)
  (hm:lastMarks [op,op'] [b,c] = false:=by with_unfolding_all rfl):PE X (.Compare a [op,op'] [b,c] pos) (tChain r r' ta tb tc):=by
 intro pins s σ H Q I h
 refine Compare_chain (thn (ha pins s σ H _ I h) fun v s1 ⟨x,H1,I1,r1,q1⟩=>chain_link (thn (hb pins s1 σ H1 _ I1 q1) fun u s2 ⟨y,H2,I2,r2,q2⟩ =>
  thn (ho pins s2 σ H2 x y v u _ I2 r1 r2 q2) fun d s3 ⟨z,H3,I3,r3,k,e,q3⟩=>?_)) hm
 subst e
 cases r3
 refine wpAny_truthy_bool ?_
 cases k with
 | false=>exact ite_ff ⟨.bl false,H3,I3,rfl,q3⟩
 | true=>exact ite_tt (chain_last (thn (hc pins s3 σ H3 _ I3 q3) fun w' s4 ⟨z',H4,I4,r4,q4⟩=>ho' pins s4 σ H4 y z' u w' Q I4 r2 r4 q4))
theorem pt_chain {op op':CmpOp} {r r':R2} (ho:OpR X (compareOp op) r) (ho':OpR X (compareOp op') r') (ha:PE X a ta) (hb:PE X b tb) (hc:PE X c tc)
  (hm:lastMarks [op,op'] [b,c] = false:=by with_unfolding_all rfl):PT X (.Compare a [op,op'] [b,c] pos) (tTest (tChain r r' ta tb tc)):=by
 intro pins s σ H Q I h
 refine isTrue_chain (thn (ha pins s σ H _ I h) fun v s1 ⟨x,H1,I1,r1,q1⟩=>test_link (thn (hb pins s1 σ H1 _ I1 q1) fun u s2 ⟨y,H2,I2,r2,q2⟩ =>
  thn (ho pins s2 σ H2 x y v u _ I2 r1 r2 q2) fun d s3 ⟨z,H3,I3,r3,k,e,q3⟩=>?_)) hm
 subst e
 cases r3
 refine wpAny_truthy_bool ?_
 cases k with
 | false =>
  obtain ⟨k',e',q'⟩:=q3
  cases e'
  exact ite_ff ⟨H3,I3,q'⟩
 | true =>
  refine ite_tt (test_last (thn (hc pins s3 σ H3 _ I3 q3) fun w' s4 ⟨z',H4,I4,r4,q4⟩=>thn (ho' pins s4 σ H4 y z' u w' _ I4 r2 r4 q4) fun d' s5 ⟨z2,H5,I5,r5,k2,e2,q5⟩=>?_))
  subst e2
  cases r5
  exact wpAny_truthy_bool ⟨H5,I5,q5⟩
noncomputable def TruV (K:PySem.W.Frag) (x:V) (H:Hp) (k:Bool):Prop :=
 match x with
 | .non=>k = false
 | .bl b=>k = b
 | .int i=>k = (i != 0)
 | .str y=>y.length ≤ sizeLine ∧ k = ((y.length:Int) != 0)
 | .byt y=>y.size ≤ sizeLine ∧ k = ((y.size:Int) != 0)
 | .ref p=>(∃ xs,SqL K H p xs ∧ k = !xs.isEmpty) ∨ (∃ xs,SqT K H p xs ∧ k = !xs.isEmpty) ∨ ∃ kvs,H p = some (.dK kvs) ∧ k = !kvs.isEmpty
 | _=>False
theorem isEmpty_kv {κ:Type} {kvs:List (κ × V)} {vs:List (κ × Value)} (r:KV kvs vs):(!vs.isEmpty) = !kvs.isEmpty:=by
 cases r <;> rfl
theorem isEmpty_of {xs:List V} {its:List Value} (r:Vals xs its):(!its.toArray.isEmpty) = !xs.isEmpty:=by
 cases r <;> simp
theorem line63:(sizeLine:Nat) < 2 ^ 63:=by rw [sizeLine_eq]; decide
theorem tru_ok:TruR X (fun x H Q=>∃ k,TruV X.K x H k ∧ Q k H):=by
 intro pins s σ H x v Q I rx h
 obtain ⟨k,e,q⟩:=h
 have hl:=line63
 have hs:sizeLine = 16777216:=sizeLine_eq
 cases x with
 | non =>
  cases rx
  have e':k = false:=e
  subst e'
  exact truthy_none ⟨H,I,q⟩
 | bl b =>
  cases rx
  have e':k = b:=e
  subst e'
  exact wpAny_truthy_bool ⟨H,I,q⟩
 | int i =>
  obtain ⟨t,rfl⟩:=rx
  have e':k = (i != 0):=e
  subst e'
  exact PySem.P.truthy_int ⟨H,I,q⟩
 | str y =>
  obtain ⟨t,rfl⟩:=rx
  obtain ⟨hy,e'⟩:y.length ≤ sizeLine ∧ k = ((y.length:Int) != 0):=e
  subst e'
  exact PySem.P.truthy_str (by omega) ⟨H,I.tok _,q⟩
 | byt y =>
  obtain ⟨t,rfl⟩:=rx
  obtain ⟨hy,e'⟩:y.size ≤ sizeLine ∧ k = ((y.size:Int) != 0):=e
  subst e'
  exact PySem.W.truthy_bytes (by omega) ⟨H,I.tok _,q⟩
 | ref p =>
  cases rx
  have e':(∃ xs,SqL X.K H p xs ∧ k = !xs.isEmpty) ∨ (∃ xs,SqT X.K H p xs ∧ k = !xs.isEmpty) ∨ ∃ kvs,H p = some (.dK kvs) ∧ k = !kvs.isEmpty:=e
  rcases e' with ⟨xs,hx,e'⟩ | ⟨xs,hx,e'⟩ | ⟨kvs,hx,e'⟩
  ·subst e'
   obtain ⟨its,r,pl,hz⟩:=I.list hx
   have hlen:=r.length
   exact wpAny_truthy_list pl.isList (by simp only [List.size_toArray]; omega) ⟨H,I.tok _,by rw [isEmpty_of r]; exact q⟩
  ·subst e'
   obtain ⟨its,r,pl,hz⟩:=I.tuple hx
   have hlen:=r.length
   exact truthy_tuple pl (by simp only [List.size_toArray]; omega) ⟨H,I.tok _,by rw [isEmpty_of r]; exact q⟩
  ·subst e'
   obtain ⟨hz,hS,vs,r,m⟩:kvs.length ≤ sizeLine ∧ (p == sysModules) = false ∧ ∃ vs,KV kvs vs ∧ s.heap.DictOf (mixKind X.prog X.w) p vs:=I.hok p _ hx
   have hlen:kvs.length = vs.length:=Paired.length r
   exact wpAny_truthy_dict hS m (by omega) ⟨H,I.tok _,by rw [isEmpty_kv r]; exact q⟩
 | _=>exact (show False from e).elim
theorem pt_truth (ha:PE X a ta) (he:∀ whole,isTrue a X.env whole = (do let v ← whole; standAt a.pos; holding [v] (truthy v))) :
  PT X a (fun σ H Q=>ta σ H fun x H'=>∃ k,TruV X.K x H' k ∧ Q k H'):=by
 intro pins s σ H Q I h
 exact isTrue_plain (thn (ha pins s σ H _ I h) fun v s1 ⟨x,H1,I1,r1,q1⟩=>tru_ok pins s1 σ H1 x v Q I1 r1 q1) (he _)
theorem vals1 {x:V} {us:List Value} (r:Vals [x] us):∃ u,us = [u] ∧ RelV x u:=by
 cases r with
 | cons r1 r2=>cases r2; exact ⟨_,rfl,r1⟩
end
end L2
namespace L2
open PySem PySem.Spec PyProof.Rows
structure ObjM (h:Heap) (x dx C:Addr) (mA:Str → Option Value):Prop where
 obj:h.get? x = some (PySem.W.instObj C dx)
 ns:h.Ns1 dx mA
 ne:dx ≠ x
theorem lookIn_ns {h:Heap} {dx:Addr} {mA:Str → Option Value} (n:h.Ns1 dx mA):∃ od,h.get? dx = some od ∧ ∀ name,PySem.W.lookIn name od = some (mA name):=by
 obtain ⟨o,es,ep,ho,hd,hk,_,hm⟩:=n
 refine ⟨o,ho,fun name=>?_⟩
 have e:=hm name
 unfold nsFind findBy at e
 rw [← Array.find?_toList] at e
 unfold PySem.W.lookIn
 rw [hd]
 dsimp only
 split
 ·rename_i y q
  rw [q] at e
  exact congrArg some e
 ·rename_i q
  rw [q] at e
  have a:es.toList.any (·.refKey) = false:=by
   rw [List.any_eq_false]
   intro y hy
   obtain ⟨z,t,hkey⟩:=hk y (Array.mem_toList_iff.mp hy)
   simp [DictEntry.refKey,hkey]
  have a':¬ es.toList.any (·.refKey) = true:=by rw [a]; exact Bool.false_ne_true
  rw [if_neg a']
  exact congrArg some e
theorem ObjM.look {h:Heap} {x dx C:Addr} {mA:Str → Option Value} (I:ObjM h x dx C mA):∃ od,PySem.W.InstAt h x (PySem.W.instObj C dx) C (some od) ∧ ∀ name,PySem.W.lookIn name od = some (mA name) :=
 let ⟨od,ho,hl⟩:=lookIn_ns I.ns
 ⟨od,⟨I.obj,rfl,rfl,ho⟩,hl⟩
section
variable {prog:Program} {w:World} {A:Around} {E:Value → Shared → Prop} {s:Shared} {K:PySem.W.Frag} {x dx C f:Addr} {mA:Str → Option Value} {name:Str} {v:Value}
theorem get_map {expr:Bool} {Q:Value → Shared → Prop} (X:K.In s.heap) (I:ObjM s.heap x dx C mA) (hg:PySem.W.plainGet K C name = true) (hh:PySem.W.hasDictIn K C = true)
  (ha:PySem.W.findIn K (.ref C) name = some none) (hv:mA name = some v) (hv':PySem.W.handedIn v = true) (h:Q v { s with toks:=s.toks + 1 }) :
  wpAny (model prog w) A (getAttr (.ref x) name expr) Q E s:=by
 obtain ⟨od,J,hl⟩:=I.look
 exact PySem.W.get_value X J (PySem.W.plainGet_of hg).1 (PySem.W.findObj_own hh ha rfl (by rw [hl,hv])) hv' h
theorem get_meth {pl:Sem Bool} {Q:Value × List Value → Shared → Prop} (X:K.In s.heap) (I:ObjM s.heap x dx C mA) (hg:PySem.W.plainGet K C name = true)
  (hf:PySem.W.findIn K (.ref C) name = some (some (.ref f))) (ht:PySem.W.isFn K (.ref f) = true) (hv:mA name = none) (h:Q (.ref f,[.ref x]) s) :
  wpAny (model prog w) A (getMethod (.ref x) name pl) Q E s:=by
 obtain ⟨od,J,hl⟩:=I.look
 exact PySem.W.method_fn X J (PySem.W.plainGet_of hg).1 (PySem.W.plainGet_of hg).2 hf (beq_iff_eq.mp ht) (by show (PySem.W.lookIn name od).map (·.isSome) = some false; rw [hl,hv]; rfl) h
theorem set_map {ns:List Str} {Q:Unit → Shared → Prop} (X:K.In s.heap) (I:ObjM s.heap x dx C mA)
  (hs:PySem.W.findIn K (.ref C) "__setattr__" = some (some (.builtin "object.__setattr__"))) (hp:PySem.W.plainOver K C = true) (ht:PySem.W.takerIn K C name = some none) (hh:PySem.W.hasDictIn K C = true)
  (hw:PySem.Within mA ns) (hsz:ns.length ≤ sizeLine)
  (h:∀ h',ObjM h' x dx C (fun y=>if y = name then some v else mA y) → Heap.SameBut dx s.heap h' → Q () { s with heap:=h',toks:=s.toks + 2 }) :
  wpAny (model prog w) A (setAttr (.ref x) name v) Q E s:=by
 obtain ⟨od,J,hl⟩:=I.look
 refine PySem.W.set_plain X J hs (PySem.W.osa_open (s:={ s with toks:=s.toks + 1 }) (r:=none) X J hp ht fun b=>?_)
 obtain ⟨cd,hc,hd'⟩:=PySem.W.any_some hh
 have hx:s.heap.get? x = some ⟨.ref C,some dx,.plain,#[]⟩:=I.obj
 refine wpAny_bind (wpAny_pure (wpAny_bind (wpAny_bind (wpAny_loadPart hx (wpAny_bind (PySem.W.Looks.here (s:={ s with toks:=s.toks + 1 }) (PySem.W.looks_clsIn X hc) ?_))))))
 rw [hd']
 refine wpAny_pure (a:=some dx) (wpAny_bind (wpAny_pure (wpAny_bind ?_)))
 refine wpAny_nsSet1 (s:={ s with toks:=s.toks + 1 }) I.ns fun h' hn2 hs2=>?_
 obtain ⟨oD,esD,epD,hoD,hdD,hcD⟩:=hn2.count (PySem.Within.cons name v hw)
 refine wpAny_bind (wpAny_lookBehind hoD (by rw [hdD]; exact pastItsLine_dict (Nat.le_trans hcD (by rw [List.length_cons]; omega))) ?_)
 exact wpAny_pure (h _ ⟨(hs2.2 _ (Ne.symm I.ne)).trans I.obj,hn2,I.ne⟩ hs2)
theorem make_map {R:Result → Shared → Prop} {vs:List Value} {kw:List (Str × Value)} (X:K.In s.heap) (hm:PySem.W.makesIn K C = true)
  (hi:PySem.W.findIn K (.ref C) "__init__" = some (some (.ref f))) (hf:PySem.W.typeIn K (.ref f) = some (.type "function"))
  (h:codeAny (model prog w) (A.under (.builtin "type.__call__" ⟨.ref C :: vs,kw⟩)) (.call (.ref f) ⟨.ref (s.heap.objs.size + 1) :: vs,kw⟩) (PySem.W.InitBack (s.heap.objs.size + 1) R)
   { s with heap:=(s.heap.push PySem.W.emptyDict).push (PySem.W.instObj C s.heap.objs.size) }) :
  codeAny (model prog w) A (.call (.ref C) ⟨vs,kw⟩) R s:=by
 obtain ⟨hh,g,d,t,os⟩:=s
 exact PySem.W.make_core (PySem.W.makes_of X hm) (PySem.W.looks_findIn X hi) (fun self=>PySem.W.bind_fn X self hf) (.inl rfl) h
end
noncomputable def putF (f:Str) (v:V):List (Str × V) → List (Str × V)
 | []=>[(f,v)]
 | (g,x) :: r=>if g = f then (g,v) :: r else (g,x) :: putF f v r
theorem lookup_putF (f g:Str) (v:V):∀ fs:List (Str × V),(putF f v fs).lookup g = if g = f then some v else fs.lookup g
 | []=>by
  show List.lookup g [(f,v)] = _
  by_cases h:g = f
  ·have hb:(g == f) = true:=beq_iff_eq.mpr h
   simp only [List.lookup,hb,if_pos h]
  ·have hb:(g == f) = false:=beq_eq_false_iff_ne.mpr h
   simp only [List.lookup,hb,if_neg h]
 | (k,x) :: r=>by
  have ih:=lookup_putF f g v r
  rw [show putF f v ((k,x) :: r) = (if k = f then (k,v) :: r else (k,x) :: putF f v r) from rfl]
  by_cases hk:k = f
  ·rw [if_pos hk]
   by_cases h:g = k
   ·have hb:(g == k) = true:=beq_iff_eq.mpr h
    simp only [List.lookup,hb,if_pos (h.trans hk)]
   ·have hb:(g == k) = false:=beq_eq_false_iff_ne.mpr h
    simp only [List.lookup,hb,if_neg (fun e:g = f=>h (e.trans hk.symm))]
  ·rw [if_neg hk]
   by_cases h:g = k
   ·have hb:(g == k) = true:=beq_iff_eq.mpr h
    simp only [List.lookup,hb,if_neg (fun e:g = f=>hk (h.symm.trans e))]
   ·have hb:(g == k) = false:=beq_eq_false_iff_ne.mpr h
    simp only [List.lookup,hb]
    exact ih
theorem keys_putF (f:Str) (v:V):∀ fs:List (Str × V),f ∈ (putF f v fs).map (·.1) ∧ ∀ g,g ∈ fs.map (·.1) → g ∈ (putF f v fs).map (·.1)
 | []=>⟨by simp [putF],fun g h=>by simp at h⟩
 | (k,x) :: r=>by
  obtain ⟨i1,i2⟩:=keys_putF f v r
  rw [show putF f v ((k,x) :: r) = (if k = f then (k,v) :: r else (k,x) :: putF f v r) from rfl]
  by_cases hk:k = f
  ·rw [if_pos hk]
   subst hk
   exact ⟨by simp,fun g h=>by simpa using h⟩
  ·rw [if_neg hk]
   refine ⟨?_,fun g h=>?_⟩
   ·rw [List.map_cons]
    exact List.mem_cons_of_mem _ i1
   ·rw [List.map_cons] at h ⊢
    rcases List.mem_cons.mp h with e | e
    ·exact List.mem_cons.mpr (.inl e)
    ·exact List.mem_cons_of_mem _ (i2 g e)
theorem length_putF (f:Str) (v:V):∀ fs:List (Str × V),(putF f v fs).length ≤ fs.length + 1
 | []=>by simp [putF]
 | (k,x) :: r=>by
  have ih:=length_putF f v r
  rw [show putF f v ((k,x) :: r) = (if k = f then (k,v) :: r else (k,x) :: putF f v r) from rfl]
  by_cases hk:k = f
  ·rw [if_pos hk,List.length_cons,List.length_cons]; omega
  ·rw [if_neg hk,List.length_cons,List.length_cons]; omega
theorem RelO.some_of {v:V} {o:Option Value} (r:RelO (some v) o):∃ u,o = some u ∧ RelV v u:=by
 cases o with
 | none=>exact (show False from r).elim
 | some u=>exact ⟨u,rfl,r⟩
theorem RelO.none_of {o:Option Value} (r:RelO none o):o = none:=by
 cases o with
 | none=>rfl
 | some u=>exact (show False from r).elim
theorem handed_of {v:V} {u:Value} (r:RelV v u):PySem.W.handedIn u = true:=by
 cases v with
 | non=>cases (show u = Value.none from r); rfl
 | bl b=>cases (show u = Value.bool b from r); rfl
 | int i=>obtain ⟨t,e⟩:=(show ∃ t,u = Value.int i t from r); cases e; rfl
 | str x=>obtain ⟨t,e⟩:=(show ∃ t,u = Value.str x t from r); cases e; rfl
 | byt b=>obtain ⟨t,e⟩:=(show ∃ t,u = Value.bytes b t from r); cases e; rfl
 | flt b=>obtain ⟨t,e⟩:=(show ∃ t,u = Value.float b t from r); cases e; rfl
 | ref a=>cases (show u = Value.ref a from r); rfl
 | ty n=>cases (show u = Value.type n from r); rfl
section
variable {P:Program} {w:World} {H H':Hp} {h h':Heap} {a C dx:Addr} {fs fs':List (Str × V)}
theorem ins_get (hok:HOk P w H h) (e:H a = some (.ins C dx fs)):∃ mA,ObjM h a dx C mA ∧ (∀ f,RelO (fs.lookup f) (mA f)) ∧ PySem.Within mA (fs.map (·.1)) ∧ fs.length ≤ 1000 ∧ H dx = some (.own a):=by
 obtain ⟨d,z,ne,ob,mA,n,r,q⟩:=(show ObjOk P w H h a (.ins C dx fs) from hok a _ e)
 exact ⟨mA,⟨ob,n,ne⟩,r,q,z,d⟩
end
structure Cls (K:PySem.W.Frag) (C:Addr):Prop where
 pg:PySem.W.plainGet K C Str.empty = true
 hd:PySem.W.hasDictIn K C = true
 po:PySem.W.plainOver K C = true
 sa:PySem.W.findIn K (.ref C) "__setattr__" = some (some (.builtin "object.__setattr__"))
theorem Cls.get {K:PySem.W.Frag} {C:Addr} (c:Cls K C) (f:Str):PySem.W.plainGet K C f = true:=c.pg
noncomputable def NoAttr (K:PySem.W.Frag) (C:Addr) (f:Str):Prop:=PySem.W.findIn K (.ref C) f = some none
theorem NoAttr.taker {K:PySem.W.Frag} {C:Addr} {f:Str} (n:NoAttr K C f):PySem.W.takerIn K C f = some none:=by
 unfold PySem.W.takerIn
 rw [show PySem.W.findIn K (.ref C) f = some none from n]
 rfl
structure Meth (K:PySem.W.Frag) (C:Addr) (m:Str) (f:Addr):Prop where
 at_:PySem.W.findIn K (.ref C) m = some (some (.ref f))
 fn:PySem.W.isFn K (.ref f) = true
 kp:PySem.W.keepIn K (.ref f) = true
section
variable {X:Cx} {pins:List (Addr × Obj)} {σ:St} {H:Hp} {s:Shared} {a C dx:Addr} {fs:List (Str × V)} {f:Str} {v:V} {A:Around} {E:Value → Shared → Prop}
theorem getattr_ok {b:Bool} {Q:Value → Shared → Prop} (I:Inv X pins σ H s) (e:H a = some (.ins C dx fs)) (c:Cls X.K C) (n:NoAttr X.K C f) (l:fs.lookup f = some v)
  (h:∀ u s',Inv X pins σ H s' → RelV v u → Q u s'):wpAny (model X.prog X.w) A (getAttr (.ref a) f b) Q E s:=by
 obtain ⟨mA,O,r,_,_,_⟩:=ins_get I.hok e
 obtain ⟨u,hu,ru⟩:=RelO.some_of (v:=v) (o:=mA f) (by rw [← l]; exact r f)
 exact get_map I.kIn O (c.get f) c.hd n hu (handed_of ru) (h u _ (I.tok _) ru)
theorem getmeth_ok {m:Str} {g:Addr} {pl:Sem Bool} {Q:Value × List Value → Shared → Prop} (I:Inv X pins σ H s) (e:H a = some (.ins C dx fs)) (c:Cls X.K C) (k:Meth X.K C m g) (l:fs.lookup m = none)
  (h:Q (.ref g,[.ref a]) s):wpAny (model X.prog X.w) A (getMethod (.ref a) m pl) Q E s:=by
 obtain ⟨mA,O,r,_,_,_⟩:=ins_get I.hok e
 have hn:mA m = none:=RelO.none_of (by rw [← l]; exact r m)
 exact get_meth I.kIn O (c.get m) k.at_ k.fn hn h
theorem setattr_ok {y:V} {u:Value} {Q:Unit → Shared → Prop} (I:Inv X pins σ H s) (e:H a = some (.ins C dx fs)) (c:Cls X.K C) (n:NoAttr X.K C f) (hl:fs.length < 1000) (ry:RelV y u)
  (h:∀ s',Inv X pins σ (upd H a (.ins C dx (putF f y fs))) s' → Q () s'):wpAny (model X.prog X.w) A (setAttr (.ref a) f u) Q E s:=by
 obtain ⟨mA,O,r,wi,_,ho⟩:=ins_get I.hok e
 have hz:(fs.map (·.1)).length ≤ sizeLine:=by rw [List.length_map,sizeLine_eq]; omega
 refine set_map I.kIn O c.sa c.po n.taker c.hd wi hz fun h' O' sb=>h _ ?_
 have hd:∃ o,h'.get? dx = some o:=let ⟨o,_,_,e',_⟩:=O'.ns; ⟨o,e'⟩
 refine I.write (x:=a) (e:=dx) (by rw [e]; exact True.intro) (.inr ho) (fun b q hb z=>(sb.2 b hb).trans z) hd ?_
 refine ⟨by rw [upd_ne O.ne]; exact ho,?_,O.ne,O'.obj,_,O'.ns,fun g=>?_,fun g hg=>?_⟩
 ·have:=length_putF f y fs; omega
 ·show RelO ((putF f y fs).lookup g) (if g = f then some u else mA g)
  rw [lookup_putF]
  by_cases q:g = f
  ·rw [if_pos q,if_pos q]; exact ry
  ·rw [if_neg q,if_neg q]; exact r g
 ·by_cases q:g = f
  ·rw [q]; exact (keys_putF f y fs).1
  ·refine (keys_putF f y fs).2 g (wi g fun z=>hg ?_)
   show (if g = f then some u else mA g) = none
   rw [if_neg q]; exact z
theorem Inv.made (I:Inv X pins σ H s):Inv X pins σ (upd (upd H s.heap.objs.size (.own (s.heap.objs.size + 1))) (s.heap.objs.size + 1) (.ins C s.heap.objs.size []))
  { s with heap:=(s.heap.push PySem.W.emptyDict).push (PySem.W.instObj C s.heap.objs.size) }:=by
 have e1:(s.heap.push PySem.W.emptyDict).get? s.heap.objs.size = some PySem.W.emptyDict:=Heap.get?_push_size s.heap rfl
 have e2:((s.heap.push PySem.W.emptyDict).push (PySem.W.instObj C s.heap.objs.size)).get? (s.heap.objs.size + 1) = some (PySem.W.instObj C s.heap.objs.size):=by
  have:=Heap.get?_push_size (s.heap.push PySem.W.emptyDict) (o:=PySem.W.instObj C s.heap.objs.size) rfl
  rwa [Heap.size_push] at this
 have e3:(s.heap.push PySem.W.emptyDict).Ns s.heap.objs.size (fun _=>none):=⟨PySem.W.emptyDict,#[],_,e1,rfl,(fun e he=>absurd he (by simp)),fun _=>rfl⟩
 have I1:=I.laid (a:=s.heap.objs.size) (o:=.own (s.heap.objs.size + 1)) (h':=s.heap.push PySem.W.emptyDict) (t':=s.toks) (fun b u q=>Heap.get?_push_of_some _ q) (Nat.le_refl _) ⟨_,e1⟩
 refine I1.laid (a:=s.heap.objs.size + 1) (o:=.ins C s.heap.objs.size []) (t':=s.toks) (fun b u q=>Heap.get?_push_of_some _ q) (Nat.le_of_eq (Heap.size_push _ _)) ?_
 have ne:s.heap.objs.size ≠ s.heap.objs.size + 1:=Nat.ne_of_lt (Nat.lt_succ_self _)
 refine ⟨by rw [upd_ne ne,upd_same],Nat.zero_le _,ne,e2,fun _=>none,(Heap.Ns1.of_empty e3).at fun o q=>Heap.get?_push_of_some _ q,fun _=>True.intro,fun y hy=>absurd rfl hy⟩
theorem attr_of {prog:Program} {w:World} {env:Env} {e:Expr} {f:Str} {pos:Pos} {s:Shared} {Q:Value → Shared → Prop} (hb:attributeBase e f env (eval e env) = eval e env)
  (h:wpAny (model prog w) A (eval e env) (fun o s₁=>wpAny (model prog w) A (getAttr o f true) Q E s₁) E s):wpAny (model prog w) A (eval (.Attribute e f pos) env) Q E s :=
 Attribute_any_ h (by rw [arm_eval_Attribute,hb])
end
noncomputable def tFld (K:PySem.W.Frag) (ta:TE) (f:Str):TE:=fun σ H Q=>ta σ H fun x H1=>∃ a C dx fs v,x = .ref a ∧ H1 a = some (.ins C dx fs) ∧ Cls K C ∧ NoAttr K C f ∧ fs.lookup f = some v ∧ Q v H1
noncomputable def sFld (K:PySem.W.Frag) (ta tv:TE) (f:Str):TS:=fun D σ H=>tv σ H fun y H1=>ta σ H1 fun x H2=>∃ a C dx fs,x = .ref a ∧ H2 a = some (.ins C dx fs) ∧ Cls K C ∧ NoAttr K C f ∧ fs.length < 1000 ∧
 D.nx σ (upd H2 a (.ins C dx (putF f y fs)))
noncomputable def InOp (X:Cx) (op:Operator) (rd:V → V → Hp → VK → Prop):Prop :=
 ∀ (pins:List (Addr × Obj)) (s:Shared) (σ:St) (H:Hp) (x y:V) (u v:Value) (Q:VK),Inv X pins σ H s → RelV x u → RelV y v → rd x y H Q → wpAny (model X.prog X.w) X.A (inplaceOp op u v) (EP X pins σ Q) X.xe s
noncomputable def sFldAug (K:PySem.W.Frag) (ta tv:TE) (rd:V → V → Hp → VK → Prop) (f:Str):TS:=fun D σ H=>ta σ H fun x H1=>∃ a C dx fs v,x = .ref a ∧ H1 a = some (.ins C dx fs) ∧ Cls K C ∧ NoAttr K C f ∧ fs.lookup f = some v ∧
 tv σ H1 fun y H2=>rd v y H2 fun z H3=>∃ dx' fs',H3 a = some (.ins C dx' fs') ∧ fs'.length < 1000 ∧ D.nx σ (upd H3 a (.ins C dx' (putF f z fs')))
section
variable {X:Cx} {o e value:Expr} {f:Str} {pos pos' tpos:Pos} {ta tv:TE}
theorem pe_fld (he:PE X e ta) (hb:attributeBase e f X.env (eval e X.env) = eval e X.env):PE X (.Attribute e f pos) (tFld X.K ta f):=by
 intro pins s σ H Q I h
 refine attr_of hb (thn (he pins s σ H _ I h) fun u s1 ⟨x,H1,I1,rx,a,C,dx,fs,v,ex,ea,c,n,l,q⟩=>?_)
 subst ex
 obtain rfl:u = Value.ref a:=rx
 exact getattr_ok I1 ea c n l fun u' s2 I2 ru=>⟨v,H1,I2,ru,q⟩
theorem ps_fld (ha:PE X o ta) (hv:PE X value tv) (hs:swapsWith value (some (.Attribute o f pos')) pos.line X.env = pure false):PS X (.Assign [.Attribute o f pos'] value pos) (sFld X.K ta tv f):=by
 intro pins s σ H D I h
 refine plainObj_wpAny_Assign_Attribute (thn (hv pins s σ H _ I h) fun u s1 ⟨y,H1,I1,ry,q⟩=>thn (ha pins s1 σ H1 _ I1 q) fun ov s2 ⟨x,H2,I2,rx,a,C,dx,fs,ex,ea,c,n,l,q2⟩=>?_) hs
 subst ex
 obtain rfl:ov = Value.ref a:=rx
 exact setattr_ok I2 ea c n l ry fun s3 I3=>⟨σ,_,I3,q2⟩
theorem ps_fldaug {op:Operator} {rd:V → V → Hp → VK → Prop} (ha:PE X o ta) (hv:PE X value tv) (hop:InOp X op rd):PS X (.AugAssign (.Attribute o f tpos) op value pos) (sFldAug X.K ta tv rd f):=by
 intro pins s σ H D I h
 refine wpAny_AugAssign_AttributeAny (thn (ha pins s σ H _ I h) fun ov s1 ⟨x,H1,I1,rx,a,C,dx,fs,v,ex,ea,c,n,l,q⟩=>?_)
 subst ex
 obtain rfl:ov = Value.ref a:=rx
 refine getattr_ok I1 ea c n l fun u s2 I2 ru=>thn (hv pins s2 σ H1 _ I2 q) fun w3 s3 ⟨y,H2,I3,ry,q3⟩=>thn (hop pins s3 σ H2 v y u w3 _ I3 ru ry q3) fun w4 s4 ⟨z,H3,I4,rz,dx',fs',ea',l',q4⟩=>?_
 exact setattr_ok I4 ea' c n l' rz fun s5 I5=>⟨σ,_,I5,q4⟩
noncomputable def rAdd:V → V → Hp → VK → Prop:=fun x y H Q=>∃ i j,x = .int i ∧ y = .int j ∧ Q (.int (i + j)) H
theorem in_add:InOp X .Add rAdd:=by
 rintro pins s σ H x y u v Q I rx ry ⟨i,j,rfl,rfl,q⟩
 obtain ⟨t,rfl⟩:=(show ∃ t,u = Value.int i t from rx)
 obtain ⟨t',rfl⟩:=(show ∃ t',v = Value.int j t' from ry)
 exact PyProof.Rows.iadd_int ⟨.int (i + j),H,I.tok _,⟨_,rfl⟩,q⟩
theorem methcall_of {pl:Sem Bool} {m:Str} {apos:Pos} {args:List Expr} {pins:List (Addr × Obj)} {s:Shared} {σ:St} {H:Hp} {Q:Value → Shared → Prop} {te:TE} (he:PE X e te) (I:Inv X pins σ H s)
  (h:te σ H fun x H1=>∃ a C dx fs g,x = .ref a ∧ H1 a = some (.ins C dx fs) ∧ Cls X.K C ∧ Meth X.K C m g ∧ fs.lookup m = none ∧
   ∀ s1,Inv X pins σ H1 s1 → wpAny (model X.prog X.w) X.A (callWith pos (.ref g) [.ref a] (backTo pos (starEach args X.env)) (backToKw pos (keywordEach [] X.env))) Q X.xe s1)
  (ht:eval (.Call (.Attribute e m apos) args [] pos) X.env = (do
   let ov ← eval e X.env
   standAt apos.atName
   let (f,first) ← holding [ov] (getMethod ov m pl)
   callWith pos f first (backTo pos (starEach args X.env)) (backToKw pos (keywordEach [] X.env)))) :
  wpAny (model X.prog X.w) X.A (eval (.Call (.Attribute e m apos) args [] pos) X.env) Q X.xe s:=by
 refine PySem.W.methodCall_KW (pl:=pl) (thn (he pins s σ H _ I h) fun u s1 ⟨x,H1,I1,rx,a,C,dx,fs,g,ex,ea,c,k,l,q⟩=>?_) ht
 subst ex
 obtain rfl:u = Value.ref a:=rx
 exact getmeth_ok I1 ea c k l (q s1 I1)
end
section
variable {X:Cx} {pins:List (Addr × Obj)} {σ:St} {H:Hp} {s:Shared} {A:Around} {E:Value → Shared → Prop} {Q:Value → Shared → Prop} {c:Value} {b:Bool}
end
end L2
namespace L2
open PySem PySem.Spec PyProof.Rows
structure Room (k:Nat) (A:Around):Prop where
 hd:A.handled = none
 dp:A.depth + 3 * k + 5 < recursionLimit
 un:A.units + 16 * k + 200 < cLine
theorem Room.mono {j k:Nat} {A:Around} (r:Room k A) (h:j ≤ k):Room j A:=⟨r.hd,by have:=r.dp; omega,by have:=r.un; omega⟩
theorem Room.deeper {k:Nat} {A:Around} (r:Room (k + 1) A) (env:Env):Room k (A.deeper env) :=
 ⟨r.hd,by have:=r.dp; show A.depth + 1 + 3 * k + 5 < _; omega,by have:=r.un; show A.units + 3 + 16 * k + 200 < _; omega⟩
theorem make_depth {A:Around} {C:Addr} {us:List Value} {kw:List (Str × Value)}:(A.under (.builtin "type.__call__" ⟨.ref C :: us,kw⟩)).depth = A.depth + 1:=by
 first | rfl | simp [Around.under,Code.weight,Code.isCreation,Code.isGuard,Code.isCaller,Code.frames,Code.isFrame,guardIds]
theorem make_units {A:Around} {C:Addr} {us:List Value} {kw:List (Str × Value)}:(A.under (.builtin "type.__call__" ⟨.ref C :: us,kw⟩)).units = A.units + 1:=by
 first | rfl | simp [Around.under,Code.cUnits,Code.frames,Code.isFrame]
theorem Room.make {k:Nat} {A:Around} (r:Room (k + 1) A) (C:Addr) (us:List Value) (kw:List (Str × Value)):Room k (A.under (.builtin "type.__call__" ⟨.ref C :: us,kw⟩)) :=
 ⟨r.hd,by have:=r.dp; rw [make_depth]; omega,by have:=r.un; rw [make_units]; omega⟩
theorem Room.depth {k:Nat} {A:Around} (r:Room k A):A.depth < recursionLimit:=by have:=r.dp; omega
noncomputable def tNil:TA:=fun _ H Q=>Q [] H
noncomputable def tCons (ta:TE) (tr:TA):TA:=fun σ H Q=>ta σ H fun x H1=>tr σ H1 fun xs H2=>Q (x :: xs) H2
section
variable {X:Cx} {e:Expr} {es:List Expr} {te:TE} {t:TA} {pos:Pos}
theorem pa_nil:PA X [] tNil:=fun _ _ _ _ H Q I h=>Calls.spliced_nil ⟨[],H,I,.nil,h⟩
theorem pa_cons (ha:PE X e te) (hr:PA X es t) (hs:starEach (e :: es) X.env = (false,eval e X.env) :: starEach es X.env:=by rfl):PA X (e :: es) (tCons te t):=by
 intro pos pins s σ H Q I h
 rw [hs]
 show wpAny _ _ (spliced ((false,eval e X.env) :: backTo pos (starEach es X.env))) _ _ s
 refine Calls.spliced_cons (thn (ha pins s σ H _ I h) fun u s1 ⟨x,H1,I1,r1,q1⟩=>?_)
 exact thn (hr pos pins s1 σ H1 _ I1 q1) fun us s2 ⟨xs,H2,I2,r2,q2⟩=>⟨x :: xs,H2,I2,.cons r1 r2,q2⟩
noncomputable def tLst (t:TA):TE:=fun σ H Q=>t σ H fun xs H1=>xs.length ≤ sizeLine ∧ ∀ p,H1 p = none → Q (.ref p) (upd H1 p (.lst xs))
theorem pe_lst (h:PA X es t):PE X (.List es pos) (tLst t):=by
 intro pins s σ H Q I hq
 refine wpAny_List_spliced (thn (h pos pins s σ H _ I hq) fun us s1 ⟨xs,H1,I1,r,z,q⟩=>⟨by rw [← r.length]; exact z,?_⟩)
 have hf:H1 s1.heap.objs.size = none:=I1.hok.fresh (Nat.le_refl _)
 refine ⟨.ref s1.heap.objs.size,upd H1 s1.heap.objs.size (.lst xs),I1.laid (t':=s1.toks) (fun b u e=>Heap.get?_push_of_some _ e) (Nat.le_refl _) ?_,rfl,q _ hf⟩
 exact ⟨z,us,0,r,Heap.get?_push_size _ rfl⟩
end
noncomputable abbrev Sp:=List V → Hp → VK → XK → Prop
noncomputable abbrev CXT:=List Env → Hp → Shared → XK → Value → Shared → Prop
structure Env0 (P:Program) (w:World) (K:PySem.W.Frag) (mg:Str → Option Value) (base:Heap) (A:Around) (outer:List Env) (s:Shared) (H:Hp):Prop where
 frames:A.frames = some outer
 mod:Mod K mg base
 bs:∀ b o,base.get? b = some o → s.heap.get? b = some o ∧ H b = none
 bsz:base.objs.size ≤ s.heap.objs.size
 funs:s.heap.FunFrames base outer
 frf:∀ b ∈ frs outer,H b = none
 hok:HOk P w H s.heap
 bare:AllBare s.gens
noncomputable def CE (outer:List Env) (P:Program) (w:World) (H:Hp) (s:Shared) (Q:VK) (u:Value) (s':Shared):Prop :=
 ∃ v H',s'.os = s.os ∧ AllBare s'.gens ∧ Un (frs outer) [] H H' s.heap s'.heap ∧ HOk P w H' s'.heap ∧ RelV v u ∧ Q v H'
noncomputable def CR (CX:CXT) (outer:List Env) (P:Program) (w:World) (H:Hp) (s:Shared) (Q:VK) (E:XK) (r:Result) (s':Shared):Prop :=
 match r with
 | .ok (.ret u)=>CE outer P w H s Q u s'
 | .ok _=>False
 | .error e=>CX outer H s E e s'
structure FnOk (P:Program) (w:World) (K:PySem.W.Frag) (mg:Str → Option Value) (base:Heap) (CX:CXT) (k:Nat) (f:Addr) (fd:FuncData) (ps:List Str) (sp:Sp):Prop where
 len:∀ vs H Q E,sp vs H Q E → vs.length = ps.length
 run:∀ (A:Around) (outer:List Env) (s:Shared) (H:Hp) (args:Args) (us:List Value) (vs:List V) (Q:VK) (E:XK),Room k A → Env0 P w K mg base A outer s H → BindsTo s fd args (ps.zip us) → Vals vs us → sp vs H Q E →
  codeAny (model P w) A (.call (.ref f) args) (CR CX outer P w H s Q E) s
theorem Env0.make {P:Program} {w:World} {K:PySem.W.Frag} {mg:Str → Option Value} {base:Heap} {A:Around} {outer:List Env} {s:Shared} {H:Hp} (e:Env0 P w K mg base A outer s H) (C:Addr) (us:List Value) (kw:List (Str × Value)) :
  Env0 P w K mg base (A.under (.builtin "type.__call__" ⟨.ref C :: us,kw⟩)) outer s H:=⟨by first | exact e.frames | (simpa [Around.under,Code.envs,Code.isFrame,pushEnvs] using e.frames),e.mod,e.bs,e.bsz,e.funs,e.frf,e.hok,e.bare⟩
section
variable {X:Cx} {pins:List (Addr × Obj)} {σ:St} {H:Hp} {s s':Shared}
theorem Inv.env0 (I:Inv X pins σ H s):Env0 X.prog X.w X.K X.mg X.base X.A X.stack s H :=
 ⟨I.ok.frames,I.ok.mod,I.bs,Nat.le_trans I.ok.bsz I.sz,I.stack,I.stkFree,I.hok,I.bare⟩
theorem Inv.after {Q:VK} {u:Value} (I:Inv X pins σ H s) (h:CE X.stack X.prog X.w H s Q u s'):EP X pins σ Q u s':=by
 obtain ⟨v,H',os,bare,un,hok,r,q⟩:=h
 obtain ⟨hh,g,d,t,os'⟩:=s'
 obtain rfl:os' = s.os:=os
 exact ⟨v,H',I.call (h':=hh) (g':=g) (d':=d) (t':=t) (ch:=[]) un hok bare (fun b z=>absurd z (by simp)),r,q⟩
end
noncomputable def tCall (sp:Sp) (dvs:List V) (E:XK) (t:TA):TE:=fun σ H Q=>t σ H fun vs H1=>sp (vs ++ dvs) H1 Q E
noncomputable def tMeth (C:Addr) (m:Str) (sp:Sp) (dvs:List V) (E:XK) (ta:TE) (t:TA):TE:=fun σ H Q=>ta σ H fun x H1=>∃ a dx fs,x = .ref a ∧ H1 a = some (.ins C dx fs) ∧ fs.lookup m = none ∧
 t σ H1 fun vs H2=>sp (x :: (vs ++ dvs)) H2 Q E
noncomputable def tMake (C:Addr) (sp:Sp) (dvs:List V) (E:XK) (t:TA):TE:=fun σ H Q=>t σ H fun vs H1=>∀ x dx,H1 x = none → H1 dx = none → dx ≠ x →
 sp (.ref x :: (vs ++ dvs)) (upd (upd H1 dx (.own x)) x (.ins C dx [])) (fun v H2=>v = .non ∧ Q (.ref x) H2) E
noncomputable def Binds (K:PySem.W.Frag) (fd:FuncData) (ps:List Str) (ds:List Value):Prop :=
 ∀ (s:Shared) (us:List Value),K.In s.heap → (us ++ ds).length = ps.length → BindsTo s fd ⟨us,[]⟩ (ps.zip (us ++ ds))
theorem Binds.all {K:PySem.W.Frag} {fd:FuncData} {ps:List Str} (h:∀ us:List Value,us.length = ps.length → bindArgs fd ⟨us,[]⟩ = pure (ps.zip us)):Binds K fd ps []:=fun s us _ hl=>by
 rw [List.append_nil] at hl ⊢
 exact .of_eq (h us hl)
noncomputable def Passes (CX:CXT) (X:Cx) (E:XK):Prop:=∀ (pins:List (Addr × Obj)) (σ:St) (H:Hp) (s:Shared) (e:Value) (s':Shared),Inv X pins σ H s → CX X.stack H s E e s' → X.xe e s'
section
variable {X:Cx} {CX:CXT} {k:Nat} {f C:Addr} {fd:FuncData} {ps:List Str} {sp:Sp} {dvs:List V} {ds:List Value} {E:XK} {x m:Str} {p pos apos:Pos} {e o:Expr} {es:List Expr} {ta:TE} {t:TA}
theorem run_fn {pins:List (Addr × Obj)} {σ:St} {H:Hp} {s:Shared} {Q:VK} {us:List Value} {vs:List V} (F:FnOk X.prog X.w X.K X.mg X.base CX k f fd ps sp) (hr:Room k X.A) (hb:Binds X.K fd ps ds) (hd:Vals dvs ds) (hx:Passes CX X E)
  (I:Inv X pins σ H s) (r:Vals vs us) (h:sp (vs ++ dvs) H Q E):wpAny (model X.prog X.w) X.A (call (.ref f) us) (EP X pins σ Q) X.xe s:=by
 have r2:Vals (vs ++ dvs) (us ++ ds):=r.append hd
 have hl:(us ++ ds).length = ps.length:=by rw [← r2.length]; exact F.len _ _ _ _ h
 refine wpAny_call (codeAny_mono (F.run X.A X.stack s H ⟨us,[]⟩ (us ++ ds) (vs ++ dvs) Q E hr I.env0 (hb s us I.kIn hl) r2 h) fun r s' hq=>?_)
 cases r with
 | error e=>exact hx pins σ H s e s' I hq
 | ok fl =>
  cases fl with
  | ret u=>exact I.after hq
  | next=>exact False.elim hq
  | brk=>exact False.elim hq
  | cont=>exact False.elim hq
theorem pe_call (F:FnOk X.prog X.w X.K X.mg X.base CX k f fd ps sp) (hr:Room k X.A) (hg:Gl X x) (hm:X.mg x = some (.ref f)) (hk:PySem.W.keepIn X.K (.ref f) = true) (hb:Binds X.K fd ps ds) (hd:Vals dvs ds) (hx:Passes CX X E)
  (ha:PA X (e :: es) t) (hdb:(x == ("__debug__":Str)) = false:=by decide) (he:starEach (e :: es) X.env = (false,eval e X.env) :: starEach es X.env:=by rfl) (hpl:(backTo pos (starEach es X.env)).any (·.1) = false:=by rfl) :
  PE X (.Call (.Name x p) (e :: es) [] pos) (tCall sp dvs E t):=by
 intro pins s σ H Q I h
 refine wpAny_Call_Name_kw (ld_glob I hg hm ?_ hdb)
 refine PySem.W.callWith_K (h₀:=X.base) I.ok.mod.kin hk (thn (ha pos pins s σ H _ I h) fun us s1 ⟨vs,H1,I1,r,q⟩=>⟨I1.kIn,?_⟩) he hpl
 exact run_fn F hr hb hd hx I1 r q
theorem pe_meth {pl:Sem Bool} (he:PE X o ta) (c:Cls X.K C) (hm:Meth X.K C m f) (F:FnOk X.prog X.w X.K X.mg X.base CX k f fd ps sp) (hr:Room k X.A) (hb:Binds X.K fd ps ds) (hd:Vals dvs ds) (hx:Passes CX X E) (ha:PA X (e :: es) t)
  (hst:starEach (e :: es) X.env = (false,eval e X.env) :: starEach es X.env:=by rfl) (hpl:(backTo pos (starEach es X.env)).any (·.1) = false:=by rfl)
  (ht:eval (.Call (.Attribute o m apos) (e :: es) [] pos) X.env = (do
   let ov ← eval o X.env
   standAt apos.atName
   let (f,first) ← holding [ov] (getMethod ov m pl)
   callWith pos f first (backTo pos (starEach (e :: es) X.env)) (backToKw pos (keywordEach [] X.env))):=by rfl) :
  PE X (.Call (.Attribute o m apos) (e :: es) [] pos) (tMeth C m sp dvs E ta t):=by
 intro pins s σ H Q I h
 refine PySem.W.methodCall_KW (pl:=pl) (thn (he pins s σ H _ I h) fun u s1 ⟨x,H1,I1,rx,a,dx,fs,ex,ea,l,q⟩=>?_) ht
 subst ex
 obtain rfl:u = Value.ref a:=rx
 refine getmeth_ok I1 ea c hm l ?_
 refine PySem.W.callWith_K (first:=[.ref a]) (h₀:=X.base) I.ok.mod.kin hm.kp (thn (ha pos pins s1 σ H1 _ I1 q) fun us s2 ⟨vs,H2,I2,r,q2⟩=>⟨I2.kIn,?_⟩) hst hpl
 exact run_fn (us:=.ref a :: us) (vs:=.ref a :: vs) F hr hb hd hx I2 (.cons rfl r) q2
theorem pe_meth0 {pl:Sem Bool} (he:PE X o ta) (c:Cls X.K C) (hm:Meth X.K C m f) (F:FnOk X.prog X.w X.K X.mg X.base CX k f fd ps sp) (hr:Room k X.A) (hb:Binds X.K fd ps ds) (hd:Vals dvs ds) (hx:Passes CX X E)
  (ht:eval (.Call (.Attribute o m apos) [] [] pos) X.env = (do
   let ov ← eval o X.env
   standAt apos.atName
   let (f,first) ← holding [ov] (getMethod ov m pl)
   callWith pos f first (backTo pos (starEach [] X.env)) (backToKw pos (keywordEach [] X.env))):=by rfl) :
  PE X (.Call (.Attribute o m apos) [] [] pos) (tMeth C m sp dvs E ta tNil):=by
 intro pins s σ H Q I h
 refine PySem.W.methodCall_KW (pl:=pl) (thn (he pins s σ H _ I h) fun u s1 ⟨x,H1,I1,rx,a,dx,fs,ex,ea,l,q⟩=>?_) ht
 subst ex
 obtain rfl:u = Value.ref a:=rx
 refine getmeth_ok I1 ea c hm l ?_
 exact PySem.W.callWith_K0 (first:=[.ref a]) I1.kIn hm.kp (run_fn (us:=[.ref a]) (vs:=[.ref a]) F hr hb hd hx I1 (.cons rfl .nil) q)
structure Mk (K:PySem.W.Frag) (C f:Addr):Prop where
 makes:PySem.W.makesIn K C = true
 init:PySem.W.findIn K (.ref C) "__init__" = some (some (.ref f))
 fn:PySem.W.isFn K (.ref f) = true
 kp:PySem.W.keepIn K (.ref C) = true
theorem run_make {pins:List (Addr × Obj)} {σ:St} {H:Hp} {s:Shared} {Q:VK} {us:List Value} {vs:List V} (M:Mk X.K C f) (F:FnOk X.prog X.w X.K X.mg X.base CX k f fd ps sp) (hr:Room (k + 1) X.A) (hb:Binds X.K fd ps ds) (hd:Vals dvs ds)
  (hx:Passes CX X E) (I:Inv X pins σ H s) (r:Vals vs us)
  (h:∀ x dx,H x = none → H dx = none → dx ≠ x → sp (.ref x :: (vs ++ dvs)) (upd (upd H dx (.own x)) x (.ins C dx [])) (fun v H2=>v = .non ∧ Q (.ref x) H2) E) :
  wpAny (model X.prog X.w) X.A (call (.ref C) us) (EP X pins σ Q) X.xe s:=by
 have hq:=h (s.heap.objs.size + 1) s.heap.objs.size (I.hok.fresh (Nat.le_succ _)) (I.hok.fresh (Nat.le_refl _)) (Nat.ne_of_lt (Nat.lt_succ_self _))
 have I2:=Inv.made (C:=C) I
 have r2:Vals (V.ref (s.heap.objs.size + 1) :: (vs ++ dvs)) (Value.ref (s.heap.objs.size + 1) :: (us ++ ds)):=.cons rfl (r.append hd)
 have hl:(Value.ref (s.heap.objs.size + 1) :: us ++ ds).length = ps.length:=by
  have e:=r2.length
  rw [F.len _ _ _ _ hq] at e
  exact e.symm
 refine wpAny_call (make_map (f:=f) I.kIn M.makes M.init (beq_iff_eq.mp M.fn) (codeAny_mono (F.run _ X.stack _ _ ⟨Value.ref (s.heap.objs.size + 1) :: us,[]⟩ (Value.ref (s.heap.objs.size + 1) :: (us ++ ds)) _ _ E (hr.make C us [])
  (I2.env0.make C us []) (hb _ (Value.ref (s.heap.objs.size + 1) :: us) I2.kIn hl) r2 hq) fun r s' hq'=>?_))
 cases r with
 | error e=>exact hx pins σ _ _ e s' I2 hq'
 | ok fl =>
  cases fl with
  | ret u =>
   obtain ⟨v,H',I3,rv,ev,q3⟩:=I2.after hq'
   subst ev
   exact ⟨rv,⟨V.ref (s.heap.objs.size + 1),H',I3,rfl,q3⟩⟩
  | next=>exact False.elim hq'
  | brk=>exact False.elim hq'
  | cont=>exact False.elim hq'
theorem pe_make (M:Mk X.K C f) (F:FnOk X.prog X.w X.K X.mg X.base CX k f fd ps sp) (hr:Room (k + 1) X.A) (hg:Gl X x) (hm:X.mg x = some (.ref C)) (hb:Binds X.K fd ps ds) (hd:Vals dvs ds) (hx:Passes CX X E)
  (ha:PA X (e :: es) t) (hdb:(x == ("__debug__":Str)) = false:=by decide) (he:starEach (e :: es) X.env = (false,eval e X.env) :: starEach es X.env:=by rfl) (hpl:(backTo pos (starEach es X.env)).any (·.1) = false:=by rfl) :
  PE X (.Call (.Name x p) (e :: es) [] pos) (tMake C sp dvs E t):=by
 intro pins s σ H Q I h
 refine wpAny_Call_Name_kw (ld_glob I hg hm ?_ hdb)
 refine PySem.W.callWith_K (h₀:=X.base) I.ok.mod.kin M.kp (thn (ha pos pins s σ H _ I h) fun us s1 ⟨vs,H1,I1,r,q⟩=>⟨I1.kIn,?_⟩) he hpl
 exact run_make M F hr hb hd hx I1 r q
theorem pe_make0 (M:Mk X.K C f) (F:FnOk X.prog X.w X.K X.mg X.base CX k f fd ps sp) (hr:Room (k + 1) X.A) (hg:Gl X x) (hm:X.mg x = some (.ref C)) (hb:Binds X.K fd ps ds) (hd:Vals dvs ds) (hx:Passes CX X E)
  (hdb:(x == ("__debug__":Str)) = false:=by decide):PE X (.Call (.Name x p) [] [] pos) (tMake C sp dvs E tNil):=by
 intro pins s σ H Q I h
 refine wpAny_Call_Name_kw (ld_glob I hg hm ?_ hdb)
 exact PySem.W.callWith_K0 I.kIn M.kp (run_make (us:=[]) M F hr hb hd hx I .nil h)
end
section
variable {X:Cx} {CX:CXT} {k:Nat} {f C:Addr} {fd:FuncData} {ps ks:List Str} {sp:Sp} {E:XK} {x m:Str} {p pos apos kpos:Pos} {e o:Expr} {es:List Expr} {kws:List Keyword} {te ta:TE} {t tk:TA} {nm:Option Str}
variable {g:List Value → List Value → List Value} {gV:List V → List V → List V}
end
structure FnScope (N P:List Str) (sc:Scope):Prop where
 kind:sc.kind = .function
 co:sc.isCoroutine = false
 gen:sc.isGenerator = false
 nd:N.Nodup
 pre:N.take P.length = P
 par:∀ x ∈ P,sc.names.lookup x = some .local ∨ sc.names.lookup x = some .cell
 nofree:∀ y ∈ sc.names,y.2 ≠ .free
theorem bindL_out {kindOf:Str → Option NameKind} {x:Str}:∀ {binds:List (Str × Value)} {m:Str → Option Value},(∀ v,(x,v) ∉ binds) → bindL kindOf binds m x = m x
 | [],_,_=>rfl
 | (n,v) :: r,m,h=>by
  unfold bindL
  rw [bindL_out fun w hw=>h w (List.mem_cons_of_mem _ hw)]
  split
  ·have:x ≠ n:=by rintro rfl; exact h v List.mem_cons_self
   simp [this]
  ·rfl
theorem bindC_out {kindOf:Str → Option NameKind} {x:Str}:∀ {binds:List (Str × Value)} {m:Str → Option Value},(∀ v,(x,v) ∉ binds) → bindC kindOf binds m x = m x
 | [],_,_=>rfl
 | (n,v) :: r,m,h=>by
  unfold bindC
  rw [bindC_out fun w hw=>h w (List.mem_cons_of_mem _ hw)]
  split
  ·rfl
  ·have:x ≠ n:=by rintro rfl; exact h v List.mem_cons_self
   simp [this]
theorem bindL_get {kindOf:Str → Option NameKind} {x:Str} {v:Value}:∀ {P:List Str} {vs:List Value} {i:Nat} {m:Str → Option Value},P.Nodup → P[i]? = some x → vs[i]? = some v → kindOf x = some .local →
  bindL kindOf (P.zip vs) m x = some v
 | [],_,_,_,_,h,_,_=>by simp at h
 | _ :: _,[],_,_,_,_,h,_=>by simp at h
 | p :: P,w :: vs,0,m,nd,h1,h2,hk=>by
  simp at h1 h2; subst h1; subst h2
  show bindL kindOf ((p,w) :: P.zip vs) m p = _
  unfold bindL
  rw [bindL_out fun v hv=>(List.nodup_cons.mp nd).1 (List.of_mem_zip hv).1,if_pos hk]
  simp
 | p :: P,w :: vs,i + 1,m,nd,h1,h2,hk=>by
  show bindL kindOf ((p,w) :: P.zip vs) m x = _
  unfold bindL
  exact bindL_get (i:=i) (List.nodup_cons.mp nd).2 (by simpa using h1) (by simpa using h2) hk
theorem bindC_get {kindOf:Str → Option NameKind} {x:Str} {v:Value}:∀ {P:List Str} {vs:List Value} {i:Nat} {m:Str → Option Value},P.Nodup → P[i]? = some x → vs[i]? = some v → kindOf x ≠ some .local →
  bindC kindOf (P.zip vs) m x = some v
 | [],_,_,_,_,h,_,_=>by simp at h
 | _ :: _,[],_,_,_,_,h,_=>by simp at h
 | p :: P,w :: vs,0,m,nd,h1,h2,hk=>by
  simp at h1 h2; subst h1; subst h2
  show bindC kindOf ((p,w) :: P.zip vs) m p = _
  unfold bindC
  rw [bindC_out fun v hv=>(List.nodup_cons.mp nd).1 (List.of_mem_zip hv).1,if_neg hk]
  simp
 | p :: P,w :: vs,i + 1,m,nd,h1,h2,hk=>by
  show bindC kindOf ((p,w) :: P.zip vs) m x = _
  unfold bindC
  exact bindC_get (i:=i) (List.nodup_cons.mp nd).2 (by simpa using h1) (by simpa using h2) hk
noncomputable def start (N:List Str) (vs:List V):St:=vs.map some ++ List.replicate (N.length - vs.length) none
noncomputable def cxOf (CX:CXT) (P:Program) (w:World) (K:PySem.W.Frag) (mg:Str → Option Value) (base:Heap) (N:List Str) (qual:Str) (scope:Scope) (f:Addr) (cd:Value) (A:Around) (outer:List Env) (s:Shared) (H:Hp) (E:XK):Cx where
 prog:=P
 w:=w
 K:=K
 mg:=mg
 base:=base
 A:=A.deeper (envOfC qual scope s.heap.objs.size f cd)
 N:=N
 s_0:=s
 H_0:=H
 env:=envOfC qual scope s.heap.objs.size f cd
 outer:=outer
 stack:=envOfC qual scope s.heap.objs.size f cd :: outer
 ex:=[]
 calm:=true
 fn:=fun _=>true
 pn:=[]
 xe:=fun e s'=>wpAny (model P w) (A.deeper (envOfC qual scope s.heap.objs.size f cd)) (leaving (envOfC qual scope s.heap.objs.size f cd) e) (fun _ s''=>CX outer H s E e s'') (fun e' s''=>CX outer H s E e' s'') s'
theorem cell_has {sc:Scope} {n:Nat} {x:Str} (h:sc.names.lookup x = some .cell):∃ c,(cellsFrom n sc.names []).lookup x = some c:=by
 have q:=PySem.W.cellsFrom_some sc.names n [] (.inl h)
 exact Option.isSome_iff_exists.mp q
theorem inv_start {CX:CXT} {P:Program} {w:World} {K:PySem.W.Frag} {mg:Str → Option Value} {base:Heap} {N ps:List Str} {qual:Str} {scope:Scope} {f:Addr} {cd:Value} {A:Around} {outer:List Env} {s s1:Shared} {H:Hp} {E:XK} {us:List Value} {vs:List V}
  (S:FnScope N ps scope) (hd:A.handled = none) (e0:Env0 P w K mg base A outer s H) (hl:vs.length = ps.length) (r:Vals vs us)
  (x:InCallC s s.heap.objs.size (bindL (envOfC qual scope s.heap.objs.size f cd).kindOf (ps.zip us) fun _=>none) (cellsFrom (s.heap.objs.size + 1) scope.names []) (bindC (envOfC qual scope s.heap.objs.size f cd).kindOf (ps.zip us) fun _=>none) s1) :
  Inv (cxOf CX P w K mg base N qual scope f cd A outer s H E) [] (start N vs) H s1:=by
 have hpl:ps.length ≤ N.length:=by have:=congrArg List.length S.pre; rw [List.length_take] at this; omega
 obtain ⟨h1,tk,rfl,hk⟩:=x.done
 have noA:∀ b:Addr,b ∉ (cxOf CX P w K mg base N qual scope f cd A outer s H E).ex:=fun b z=>absurd (show b ∈ ([]:List Addr) from z) (by simp)
 refine ⟨⟨e0.mod,S.kind,rfl,rfl,Nat.le_refl _,fun y z c h1 h2=>?_,fun y hy=>?_,fun y c _ h=>?_,fun _=>hd,Around.frames_deeper e0.frames,.inr ⟨rfl,rfl⟩,fun b z=>absurd z (noA b),e0.bs,e0.bsz,fun b _ _=>noA b,fun b z=>absurd z (noA b),e0.funs,e0.frf⟩,
  rfl,e0.bare,Un.kept hk,⟨_,x.toInCall.ns,fun i y v h1 h2 h3=>?_⟩,fun y c h=>⟨_,x.cell y c h⟩,e0.hok.fresh (Nat.le_refl _),fun y c h=>?_,fun p hp=>absurd (show p ∈ ([]:List (Addr × Obj)) from hp) (by simp),e0.hok.kept hk,?_⟩
 ·exact name_of_addr x.apart (PySem.mem_of_lookup h1) (PySem.mem_of_lookup h2)
 ·have hy:scope.names.lookup y = some .cell ∨ scope.names.lookup y = some .free:=hy
  rcases hy with hy | hy
  ·exact cell_has hy
  ·exact absurd rfl (S.nofree _ (PySem.mem_of_lookup hy))
 ·exact Nat.le_of_lt (x.above y c (PySem.mem_of_lookup h))
 ·have hi:i < vs.length:=by
   unfold start at h2
   by_cases hi:i < vs.length
   ·exact hi
   ·rw [List.getElem?_append_right (by simpa using hi)] at h2
    rw [List.getElem?_replicate] at h2
    split at h2 <;> cases h2
  have ha:vs[i]? = some v:=by
   unfold start at h2
   rw [List.getElem?_append_left (by simpa using hi),List.getElem?_map] at h2
   cases e:vs[i]? with
   | none=>rw [e] at h2; cases h2
   | some a=>rw [e] at h2; cases h2; rfl
  obtain ⟨u,hu,rv⟩:=r.get ha
  have hp:ps[i]? = some y:=by
   rw [← S.pre,List.getElem?_take_of_lt (by omega)]; exact h1
  have ndP:ps.Nodup:=by rw [← S.pre]; exact S.nd.sublist (List.take_sublist _ _)
  refine ⟨u,rv,?_⟩
  rcases S.par y (List.mem_of_getElem? hp) with k | k
  ·exact .inl ⟨k,bindL_get ndP hp hu k⟩
  ·obtain ⟨c,e⟩:=cell_has (n:=s.heap.objs.size + 1) k
   refine .inr ⟨.inl k,c,e,?_⟩
   have q:=x.cell y c e
   rw [bindC_get ndP hp hu (by show scope.names.lookup y ≠ _; rw [k]; decide)] at q
   exact q
 ·exact e0.hok.fresh (Nat.le_of_lt (x.above y c (PySem.mem_of_lookup h)))
 ·unfold start
  show _ = N.length
  rw [List.length_append,List.length_map,List.length_replicate]
  omega
theorem fn_of {CX:CXT} {P:Program} {w:World} {K:PySem.W.Frag} {mg:Str → Option Value} {base:Heap} {k:Nat} {f:Addr} {name qual:Str} {params:Arguments} {body:List Stmt} {scope:Scope} {dV kV doc pm cdv ct oc:Value} {an od:Option Addr}
  {osl:Array (Option Value)} {N ps:List Str} {sp:Sp} (lk:K.lookup f = some ⟨oc,od,.func (PySem.W.fnOf name qual params body scope dV kV doc pm an cdv ct),osl⟩) (hcd:PySem.W.codeIn K cdv qual = true) (S:FnScope N ps scope)
  (len:∀ vs H Q E,sp vs H Q E → vs.length = ps.length)
  (hbody:∀ (A:Around) (outer:List Env) (s:Shared) (H:Hp) (vs:List V) (Q:VK) (E:XK),Room k (A.deeper (envOfC qual scope s.heap.objs.size f cdv)) → sp vs H Q E →
   ∃ t,PSs (cxOf CX P w K mg base N qual scope f cdv A outer s H E) body t ∧ t { nx:=fun _ H'=>Q .non H',rt:=Q } (start N vs) H) :
  FnOk P w K mg base CX (k + 1) f (PySem.W.fnOf name qual params body scope dV kV doc pm an cdv ct) ps sp:=by
 refine ⟨len,fun A outer s H args us vs Q E hr e0 hb r hsp=>?_⟩
 have hl:=len _ _ _ _ hsp
 have KX:K.In s.heap:=e0.mod.kin.keeps fun b o e=>(e0.bs b o e).1
 have lim:s.heap.NoLimit:=e0.mod.nolimit.keeps fun b o e=>(e0.bs b o e).1
 have hkind:∀ y ∈ ps.zip us,scope.names.lookup y.1 = some .local ∨ (scope.names.lookup y.1 = some .cell ∧ ((cellsFrom (s.heap.objs.size + 1) scope.names []).lookup y.1).isSome = true):=fun ⟨n,v⟩ hy=>by
  rcases S.par n (List.of_mem_zip hy).1 with q | q
  ·exact .inl q
  ·exact .inr ⟨q,PySem.W.cellsFrom_some _ _ _ (.inl q)⟩
 refine codeAny_call_function hr.depth (KX _ _ lk) rfl S.co S.gen rfl (PySem.W.codeRec_of KX hcd) (hb _ _ _ _ ?_)
 refine wpAny_newFunctionEnv_cells S.kind hkind fun env he s1 x=>?_
 subst he
 refine ⟨lim.keeps x.toInCall.keep,codeAny_func ?_⟩
 obtain ⟨t,ht,hq⟩:=hbody A outer s H vs Q E (hr.deeper _) hsp
 have I:Inv (cxOf CX P w K mg base N qual scope f cdv A outer s H E) [] (start N vs) H s1:=inv_start S hr.hd e0 hl r x
 refine wpAny_mono (ht [] s1 (start N vs) H _ I hq) (fun fl s' hs=>?_) fun e s' hs=>hs
 have fin:∀ {σ':St} {H':Hp} {v:V} {u:Value},Inv (cxOf CX P w K mg base N qual scope f cdv A outer s H E) [] σ' H' s' → RelV v u → Q v H' → CE outer P w H s Q u s' :=
  fun {σ' H' v u} J rv q=>⟨v,H',J.os,J.bare,J.base,J.hok,rv,q⟩
 cases fl with
 | ret u =>
  obtain ⟨v,σ',H',J,rv,q⟩:=hs
  exact fin J rv q
 | next =>
  obtain ⟨σ',H',J,q⟩:=hs
  exact fin (v:=V.non) (u:=Value.none) J rfl q
 | brk =>
  obtain ⟨_,_,_,q⟩:=hs
  exact False.elim q
 | cont =>
  obtain ⟨_,_,_,q⟩:=hs
  exact False.elim q
end L2
namespace L2
open PySem PySem.Spec PyProof.Rows
section
variable {X:Cx} {x:Str} {p pos:Pos} {e:Expr} {es:List Expr} {t:TA} {id T:String} {r:List V → Hp → VK → Prop}
noncomputable def tCB (r:List V → Hp → VK → Prop) (t:TA):TE:=fun σ H Q=>t σ H fun vs H1=>r vs H1 Q
theorem pe_callB (hc:CallR X (.builtin id) r) (hg:Gl X x) (hm:X.mg x = none) (hv:bootBuiltins x = some (.builtin id)) (ha:PA X (e :: es) t) (hn:x ≠ "__name__":=by decide) (hdb:(x == ("__debug__":Str)) = false:=by decide)
  (he:starEach (e :: es) X.env = (false,eval e X.env) :: starEach es X.env:=by rfl) (hpl:(backTo pos (starEach es X.env)).any (·.1) = false:=by rfl):PE X (.Call (.Name x p) (e :: es) [] pos) (tCB r t):=by
 intro pins s σ H Q I h
 refine wpAny_Call_Name_kw (ld_blt I hg hm hv ?_ hn hdb)
 exact PyProof.Rows.callWith_builtin1 (thn (ha pos pins s σ H _ I h) fun us s1 ⟨vs,H1,I1,r1,q1⟩=>hc pins s1 σ H1 vs us Q I1 r1 q1) he hpl
theorem pe_callTy (hc:CallR X (.type T) r) (hg:Gl X x) (hm:X.mg x = none) (hv:bootBuiltins x = some (.type T)) (ha:PA X (e :: es) t) (hn:x ≠ "__name__":=by decide) (hdb:(x == ("__debug__":Str)) = false:=by decide)
  (he:starEach (e :: es) X.env = (false,eval e X.env) :: starEach es X.env:=by rfl) (hpl:(backTo pos (starEach es X.env)).any (·.1) = false:=by rfl):PE X (.Call (.Name x p) (e :: es) [] pos) (tCB r t):=by
 intro pins s σ H Q I h
 refine wpAny_Call_Name_kw (ld_blt I hg hm hv ?_ hn hdb)
 exact PyProof.Rows.callWith_type1 (thn (ha pos pins s σ H _ I h) fun us s1 ⟨vs,H1,I1,r1,q1⟩=>hc pins s1 σ H1 vs us Q I1 r1 q1) he hpl
end
end L2
namespace HT
open PySem PyProof.Rows
section
open PySem.SeqAt
open PySem.AutoSeq1 (wpAny_loadPart')
open PySem.MeetsSeq PySem.MeetsSeq2 PySem.MeetsSeq3
end
section
variable {prog:Program} {w:World} {A:Around} {E:Value → Shared → Prop} {s:Shared}
noncomputable def sIx (n d:Nat):Option Int → Nat
 | none=>d
 | some v=>if v < 0 then (v + (n:Int)).toNat else min v.toNat n
theorem sIx_nat (n d k:Nat):sIx n d (some (k:Int)) = min k n:=by
 show (if (k:Int) < 0 then ((k:Int) + (n:Int)).toNat else min (k:Int).toNat n) = min k n
 rw [if_neg (by omega),Int.toNat_natCast]
end
end HT
namespace L2
open PySem PySem.Spec PyProof.Rows
noncomputable abbrev TO:=St → Hp → (Option Int → Hp → Prop) → Prop
noncomputable def PO (X:Cx) (e:Option Expr) (t:TO):Prop :=
 ∀ (pins:List (Addr × Obj)) (s:Shared) (σ:St) (H:Hp) (Q:Option Int → Hp → Prop),Inv X pins σ H s → t σ H Q →
  wpAny (model X.prog X.w) X.A (evalPart e X.env) (fun u s'=>∃ o H',Inv X pins σ H' s' ∧ IsPart u o ∧ Q o H') X.xe s
noncomputable def tPart (t:TE):TO:=fun σ H Q=>t σ H fun x H1=>∃ i,x = .int i ∧ Q (some i) H1
theorem intsAre_of {ns:List Int}:∀ {us:List Value},Vals (ns.map V.int) us → IntsAre us ns:=by
 induction ns with
 | nil=>intro us r; rw [List.map_nil] at r; cases r; exact .nil
 | cons n ns ih =>
  intro us r
  rw [List.map_cons] at r
  cases r with
  | cons r1 r2 =>
   obtain ⟨t,e⟩:=r1
   subst e
   exact .cons n t (ih r2)
section
variable {X:Cx} {e:Expr} {te:TE} {lo hi:Option Expr} {tl th:TO} {pos p2:Pos}
theorem po_some (h:PE X e te):PO X (some e) (tPart te):=by
 intro pins s σ H Q I hw
 rw [evalPart_some]
 refine thn (h pins s σ H _ I hw) fun u s1 ⟨x,H1,I1,r1,q1⟩=>?_
 obtain ⟨i,rfl,q⟩:=q1
 obtain ⟨t,rfl⟩:=r1
 exact ⟨some i,H1,I1,.int i t,q⟩
noncomputable def SlR (X:Cx) (r:V → Option Int → Option Int → Hp → VK → Prop):Prop :=
 ∀ (pins:List (Addr × Obj)) (s:Shared) (σ:St) (H:Hp) (x:V) (v vl vu:Value) (lo hi:Option Int) (sl:Addr) (Q:VK),Inv X pins σ H s → RelV x v → s.heap.IsSliceOf sl vl vu .none → IsPart vl lo → IsPart vu hi → r x lo hi H Q →
  ∃ T id,typeLookup (.type T) "__getitem__" = pure (some (.builtin id)) ∧ s.TypeIs v T ∧ wpAny (model X.prog X.w) X.A (getItem v (.ref sl)) (EP X pins σ Q) X.xe s
noncomputable def tSl (r:V → Option Int → Option Int → Hp → VK → Prop) (te:TE) (tl th:TO):TE:=fun σ H Q=>te σ H fun x H1=>tl σ H1 fun l H2=>th σ H2 fun u H3=>r x l u H3 Q
theorem pe_slice {r:V → Option Int → Option Int → Hp → VK → Prop} (hr:SlR X r) (he:PE X e te) (hl:PO X lo tl) (hu:PO X hi th):PE X (.Subscript e (.Slice lo hi none p2) pos) (tSl r te tl th):=by
 intro pins s σ H Q I h
 refine Subscript_ (thn (he pins s σ H _ I h) fun v s1 ⟨x,H1,I1,r1,q1⟩=>?_)
 refine wpAny_Slice (thn (hl pins s1 σ H1 _ I1 q1) fun vl s2 ⟨l,H2,I2,pl,q2⟩=>thn (hu pins s2 σ H2 _ I2 q2) fun vu s3 ⟨u,H3,I3,pu,q3⟩=>?_)
 rw [evalPart_none]
 refine wpAny_pure ?_
 have I4:Inv X pins σ H3 { s3 with heap:=s3.heap.push { cls:=.type "slice",data:=.fields #[vl,vu,.none] } }:=I3.kept (t':=s3.toks) fun b ob q=>Heap.get?_push_of_some _ q
 obtain ⟨T,id,hT,ht,hg⟩:=hr pins { s3 with heap:=s3.heap.push { cls:=.type "slice",data:=.fields #[vl,vu,.none] } } σ H3 x v vl vu l u s3.heap.objs.size Q I4 r1 (Heap.IsSliceOf.new ..) pl pu q3
 show wpAny (model X.prog X.w) X.A (subscriptTail e (.Slice lo hi none p2) v (.ref s3.heap.objs.size)) (EP X pins σ Q) X.xe { s3 with heap:=s3.heap.push { cls:=.type "slice",data:=.fields #[vl,vu,.none] } }
 exact tail_any (ops:=[.ref s3.heap.objs.size,v]) ht hT hg (by with_unfolding_all rfl)
noncomputable def cutV (xs:List V) (lo hi:Option Int):List V:=(xs.drop (HT.sIx xs.length 0 lo)).take (HT.sIx xs.length xs.length hi - HT.sIx xs.length 0 lo)
theorem cutV_length (xs:List V) (lo hi:Option Int):(cutV xs lo hi).length ≤ xs.length:=by
 unfold cutV
 rw [List.length_take,List.length_drop]
 omega
end
end L2
namespace L2
open PySem PySem.Spec PyProof.Rows
noncomputable def ixN (n:Nat) (i:Int):Option Nat:=if 0 ≤ i then (if i < n then some i.toNat else none) else if -(n:Int) ≤ i then some (i + n).toNat else none
noncomputable def atI {α:Type} (xs:List α) (i:Int):Option α:=(ixN xs.length i).bind fun j=>xs[j]?
theorem ixN_seq {n:Nat} {i:Int} {j:Nat} (h:ixN n i = some j):seqIndex? i n = some j ∧ j < n ∧ -(n:Int) ≤ i ∧ i < n:=by
 unfold ixN at h
 by_cases h0:0 ≤ i
 ·rw [if_pos h0] at h
  by_cases h1:i < n
  ·rw [if_pos h1] at h
   have e:i.toNat = j:=Option.some.inj h
   exact ⟨by rw [seqIndex_of h0 h1,e],by omega,by omega,h1⟩
  ·rw [if_neg h1] at h; cases h
 ·rw [if_neg h0] at h
  by_cases h1:-(n:Int) ≤ i
  ·rw [if_pos h1] at h
   have e:(i + n).toNat = j:=Option.some.inj h
   exact ⟨by rw [seqIndex_neg (by omega) h1,e],by omega,h1,by omega⟩
  ·rw [if_neg h1] at h; cases h
theorem atI_get {α:Type} {xs:List α} {i:Int} {v:α} (h:atI xs i = some v):∃ j,seqIndex? i xs.length = some j ∧ xs[j]? = some v ∧ j < xs.length ∧ -(xs.length:Int) ≤ i ∧ i < xs.length:=by
 unfold atI at h
 cases e:ixN xs.length i with
 | none=>rw [e] at h; cases h
 | some j =>
  rw [e] at h
  obtain ⟨h1,h2,h3,h4⟩:=ixN_seq e
  exact ⟨j,h1,h,h2,h3,h4⟩
theorem atI_nat {α:Type} {xs:List α} {j:Nat} {v:α} (h:xs[j]? = some v):atI xs (j:Int) = some v:=by
 have hj:j < xs.length:=(List.getElem?_eq_some_iff.mp h).1
 have e:ixN xs.length (j:Int) = some j:=by
  unfold ixN
  rw [if_pos (by omega),if_pos (by omega)]; simp
 unfold atI; rw [e]; exact h
noncomputable def PlainIx (b:Expr):Prop:=∀ o i,subscripted b false o i = operate [o,i] (getItem o i)
noncomputable def IxR (X:Cx) (r:R2):Prop :=
 ∀ (value slice:Expr) (pins:List (Addr × Obj)) (s:Shared) (σ:St) (H:Hp) (x y:V) (v u:Value) (Q:VK),Inv X pins σ H s → RelV x v → RelV y u → r x y H Q →
  subscripted slice false v u = operate [v,u] (getItem v u) → wpAny (model X.prog X.w) X.A (subscriptTail value slice v u) (EP X pins σ Q) X.xe s
noncomputable def MtR (X:Cx) (id:String) (r:V → List V → Hp → VK → Prop):Prop :=
 ∀ (pins:List (Addr × Obj)) (s:Shared) (σ:St) (H:Hp) (x:V) (xs:List V) (v:Value) (us:List Value) (Q:VK),Inv X pins σ H s → RelV x v → Vals xs us → r x xs H Q →
  wpAny (model X.prog X.w) X.A (call (.builtin id) (v :: us)) (EP X pins σ Q) X.xe s
section
variable {X:Cx} {a b:Expr} {ta tb:TE} {pos:Pos}
theorem pe_ix {r:R2} (hr:IxR X r) (ha:PE X a ta) (hb:PE X b tb) (hs:PlainIx b):PE X (.Subscript a b pos) (tOp r ta tb):=by
 intro pins s σ H Q I h
 exact Subscript_ (binT ha hb I h fun v u s2 x y H2 I2 rx ry q=>hr a b pins s2 σ H2 x y v u Q I2 rx ry q (hs _ _))
noncomputable def rIxL (K:PySem.W.Frag):R2:=fun x y H Q=>∃ p xs i v,x = .ref p ∧ y = .int i ∧ SqL K H p xs ∧ atI xs i = some v ∧ Q v H
noncomputable def rIxT (K:PySem.W.Frag):R2:=fun x y H Q=>∃ p xs i v,x = .ref p ∧ y = .int i ∧ SqT K H p xs ∧ atI xs i = some v ∧ Q v H
theorem ix_list:IxR X (rIxL X.K):=by
 intro value slice pins s σ H x y v u Q I rx ry h hs
 obtain ⟨p,xs,i,z,rfl,rfl,hq,he,q⟩:=h
 cases rx
 obtain ⟨t,rfl⟩:=ry
 obtain ⟨its,r,pl,hz⟩:=I.list hq
 obtain ⟨j,h1,h2,h3,h4,h5⟩:=atI_get he
 obtain ⟨w,ew,rw'⟩:=r.get h2
 have hl:=r.length
 have hn:=line63
 have fin:EP X pins σ Q w s:=⟨z,H,I,rw',q⟩
 by_cases h0:0 ≤ i
 ·have hj:i.toNat = j:=by
   rw [seqIndex_of h0 h5] at h1
   exact Option.some.inj h1
  exact item_listR pl.isList h0 (by omega) (by rw [hj]; simpa using ew) fin hs
 ·have hj:(i + (its.toArray.size:Int)).toNat = j:=by
   rw [seqIndex_neg (by omega) h4] at h1
   rw [List.size_toArray,← hl]
   exact Option.some.inj h1
  exact subscriptTail_builtinR (x:=w) pl.isList.typeIs slot_list_getitem.lookup
   (wpAny_getItem_list_neg (Q:=fun r s'=>r = w ∧ EP X pins σ Q r s') pl.isList (by omega) (by rw [List.size_toArray] <;> omega) (by omega) (by rw [hj]; simpa using ew) ⟨rfl,fin⟩) hs
theorem ix_tup:IxR X (rIxT X.K):=by
 intro value slice pins s σ H x y v u Q I rx ry h hs
 obtain ⟨p,xs,i,z,rfl,rfl,hq,he,q⟩:=h
 cases rx
 obtain ⟨t,rfl⟩:=ry
 obtain ⟨its,r,pl,hz⟩:=I.tuple hq
 obtain ⟨j,h1,h2,h3,h4,h5⟩:=atI_get he
 obtain ⟨w,ew,rw'⟩:=r.get h2
 have hl:=r.length
 have hn:=line63
 have fin:EP X pins σ Q w s:=⟨z,H,I,rw',q⟩
 exact subscriptTail_builtinR (x:=w) pl.typeIs slot_tuple_getitem.lookup
  (getItem_tuple (j:=j) (Q:=fun r s'=>r = w ∧ EP X pins σ Q r s') pl (by omega) (by omega) (by rw [List.size_toArray,← hl]; exact h1) (by simpa using ew) ⟨rfl,fin⟩) hs
theorem mapSeq_set (its:List Value) (n j:Nat) (u:Value):Obj.mapSeq (·.setIfInBounds j u) { cls:=.type "list",data:=.seq its.toArray n } = { cls:=.type "list",data:=.seq (its.set j u).toArray n }:=by
 simp [Obj.mapSeq]
theorem Inv.lst {pins:List (Addr × Obj)} {σ:St} {H:Hp} {s:Shared} {p:Addr} {xs:List V} (I:Inv X pins σ H s) (h:H p = some (.lst xs)) :
  ∃ (its:List Value) (n:Nat),Vals xs its ∧ s.heap.get? p = some { cls:=.type "list",data:=.seq its.toArray n } ∧ xs.length ≤ sizeLine:=by
 obtain ⟨z,its,n,r,e⟩:=I.hok p _ h
 exact ⟨its,n,r,e,z⟩
theorem Inv.lstUpd {pins:List (Addr × Obj)} {σ:St} {H:Hp} {s:Shared} {p:Addr} {xs ys:List V} {its its':List Value} {n n':Nat} {f:Obj → Obj} (I:Inv X pins σ H s) (h:H p = some (.lst xs))
  (ho:s.heap.get? p = some { cls:=.type "list",data:=.seq its.toArray n }) (hf:f { cls:=.type "list",data:=.seq its.toArray n } = { cls:=.type "list",data:=.seq its'.toArray n' }) (r:Vals ys its') (hz:ys.length ≤ sizeLine) (t:Nat) :
  Inv X pins σ (upd H p (.lst ys)) { s with heap:=s.heap.update p f,toks:=t }:=by
 have e:(s.heap.update p f).get? p = some { cls:=.type "list",data:=.seq its'.toArray n' }:=by
  rw [Heap.get?_update_self f ho (by rw [hf] <;> rfl),hf]
 refine I.write (x:=p) (e:=p) (by rw [h]; trivial) (.inl rfl) (fun b u hb q=>(Heap.get?_update_other _ _ (Ne.symm hb)).trans q) ⟨_,e⟩ ?_
 exact ⟨hz,its',n',r,e⟩
noncomputable def rSetL:V → V → V → Hp → (Hp → Prop) → Prop:=fun o i v H Q=>∃ p xs k j,o = .ref p ∧ i = .int k ∧ H p = some (.lst xs) ∧ ixN xs.length k = some j ∧ Q (upd H p (.lst (xs.set j v)))
theorem set_list:PSet X rSetL:=by
 intro pins s σ H o i v ov iv u Q I ro ri rv h
 obtain ⟨p,xs,k,j,rfl,rfl,hp,hj,q⟩:=h
 cases ro
 obtain ⟨t,rfl⟩:=ri
 obtain ⟨its,n,r,ho,hz⟩:=I.lst hp
 obtain ⟨h1,h2,h3,h4⟩:=ixN_seq hj
 have hl:=r.length
 have hn:=line63
 have I':Inv X pins σ (upd H p (.lst (xs.set j v))) { s with heap:=s.heap.update p (Obj.mapSeq (·.setIfInBounds j u)) } :=
  I.lstUpd hp ho (mapSeq_set its n j u) (r.set rv j) (by rw [List.length_set]; exact hz) s.toks
 by_cases h0:0 ≤ k
 ·have hk:k.toNat = j:=by
   rw [seqIndex_of h0 h4] at h1
   exact Option.some.inj h1
  exact PySem.W.ki_setAt ho h0 (by omega) (by rw [List.size_toArray,← hl]; exact h4) (by rw [hk]; exact ⟨_,I',q⟩)
 ·have hk:(k + (its.toArray.size:Int)).toNat = j:=by
   rw [seqIndex_neg (by omega) h3] at h1
   rw [List.size_toArray,← hl]
   exact Option.some.inj h1
  exact PySem.W.ki_setBack ho (by omega) (by rw [List.size_toArray,← hl]; exact h3) (by omega) (by rw [hk]; exact ⟨_,I',q⟩)
theorem slice_bounds (lo hi:Option Int) (n:Nat):(sliceBounds lo hi none n).1 = ((HT.sIx n 0 lo:Nat):Int) ∧ (sliceBounds lo hi none n).2.1 = ((HT.sIx n n hi:Nat):Int) ∧ (sliceBounds lo hi none n).2.2 = 1:=by
 refine ⟨?_,?_,rfl⟩
 ·cases lo with
  | none=>simp [sliceBounds,HT.sIx]
  | some i =>
   simp only [sliceBounds,HT.sIx,Option.getD_none,show (1:Int) > 0 by decide,if_true]
   by_cases h:i < 0
   ·simp only [h,if_true] <;> omega
   ·simp only [h,if_false] <;> omega
 ·cases hi with
  | none=>simp [sliceBounds,HT.sIx]
  | some i =>
   simp only [sliceBounds,HT.sIx,Option.getD_none,show (1:Int) > 0 by decide,if_true]
   by_cases h:i < 0
   ·simp only [h,if_true] <;> omega
   ·simp only [h,if_false] <;> omega
theorem slicePick_cut (its:List Value) (lo hi:Option Int):slicePick its.toArray lo hi none = ((its.drop (HT.sIx its.length 0 lo)).take (HT.sIx its.length its.length hi - HT.sIx its.length 0 lo)).toArray:=by
 obtain ⟨h1,h2,h3⟩:=slice_bounds lo hi its.toArray.size
 unfold slicePick
 rw [h1,h2,h3]
 simp only [sliceRange_one,pick_run,List.size_toArray] <;> rfl
noncomputable def rSlL (K:PySem.W.Frag):V → Option Int → Option Int → Hp → VK → Prop:=fun x lo hi H Q=>∃ a xs,x = .ref a ∧ SqL K H a xs ∧ ∀ p,H p = none → Q (.ref p) (upd H p (.lst (cutV xs lo hi)))
theorem sl_list:SlR X (rSlL X.K):=by
 intro pins s σ H x v vl vu lo hi sl Q I rx hs pl pu h
 obtain ⟨a,xs,rfl,hx,q⟩:=h
 cases rx
 obtain ⟨its,r,ht,hz⟩:=I.list hx
 have hlen:=r.length
 refine ⟨"list",_,slot_list_getitem.lookup,ht.isList.typeIs,?_⟩
 refine wpAny_getItem_list_slice ht.isList hs pl pu .none (by simp) ?_ (by rw [List.size_toArray] <;> omega)
 rw [slicePick_cut,← hlen]
 refine ⟨.ref s.heap.objs.size,_,I.laid (t':=s.toks) (o:=.lst (cutV xs lo hi)) (fun b ob q=>Heap.get?_push_of_some _ q) (Nat.le_refl _) ?_,rfl,q _ (I.hok.fresh (Nat.le_refl _))⟩
 exact ⟨Nat.le_trans (cutV_length xs lo hi) hz,_,0,(r.drop (HT.sIx xs.length 0 lo)).take (HT.sIx xs.length xs.length hi - HT.sIx xs.length 0 lo),Heap.get?_push_size _ rfl⟩
theorem call_len_seq:CallR X (.builtin "len") (fun xs H Q=>∃ p ys,xs = [.ref p] ∧ (SqL X.K H p ys ∨ SqT X.K H p ys) ∧ Q (.int ys.length) H):=by
 intro pins s σ H xs us Q I r h
 obtain ⟨p,ys,rfl,hq,q⟩:=h
 obtain ⟨u,rfl,rx⟩:=vals1 r
 cases rx
 have hn:=line63
 rcases hq with hq | hq
 ·obtain ⟨its,r',pl,hz⟩:=I.list hq
  have hlen:=r'.length
  exact Calls.call_len_list pl.isList (by simp only [List.size_toArray] <;> omega) ⟨.int ys.length,H,I.tok _,⟨s.toks + 1,by rw [List.size_toArray,hlen]⟩,q⟩
 ·obtain ⟨its,r',pl,hz⟩:=I.tuple hq
  have hlen:=r'.length
  exact len_tuple pl (by simp only [List.size_toArray] <;> omega) ⟨.int ys.length,H,I.tok _,⟨s.toks + 1,by rw [List.size_toArray,hlen]⟩,q⟩
theorem call_list_of:CallR X (.type "list") (fun xs H Q=>∃ p ys,xs = [.ref p] ∧ (SqL X.K H p ys ∨ SqT X.K H p ys) ∧ ∀ l,H l = none → Q (.ref l) (upd H l (.lst ys))):=by
 intro pins s σ H xs us Q I r h
 obtain ⟨p,ys,rfl,hq,q⟩:=h
 obtain ⟨u,rfl,rx⟩:=vals1 r
 cases rx
 have fin:∀ (its:List Value),Vals ys its → ys.length ≤ sizeLine → ∀ (h':Heap) (c':Nat),(∀ b o',s.heap.get? b = some o' → h'.get? b = some o') →
   h'.get? s.heap.objs.size = some { cls:=.type "list",dict:=none,data:=.seq its.toArray c',slots:=#[] } → EP X pins σ Q (.ref s.heap.objs.size) { s with heap:=h' }:=fun its r' hz h' c' kp e =>
  ⟨.ref s.heap.objs.size,_,I.laid (t':=s.toks) kp (Nat.le_refl _) (show ObjOk X.prog X.w _ h' _ (.lst ys) from ⟨hz,its,c',r',e⟩),rfl,q _ (I.hok.fresh (Nat.le_refl _))⟩
 rcases hq with hq | hq
 ·obtain ⟨its,r',pl,hz⟩:=I.list hq
  have hlen:=r'.length
  obtain ⟨o,ho,hc,n,hd⟩:=pl.isList
  exact call_list_seq p (.inl rfl) ho hc hd (fun h' c' kp e=>fin its r' hz h' c' kp e) (by simp only [List.size_toArray] <;> omega)
 ·obtain ⟨its,r',pl,hz⟩:=I.tuple hq
  have hlen:=r'.length
  obtain ⟨o,ho,hc,n,hd⟩:=pl
  exact call_list_seq p (.inr rfl) ho hc hd (fun h' c' kp e=>fin its r' hz h' c' kp e) (by simp only [List.size_toArray] <;> omega)
noncomputable def tyV (K:PySem.W.Frag) (T:String) (x:V) (H:Hp):Prop:=match x with
 | .str _=>T = "str"
 | .int _=>T = "int"
 | .ref p=>(T = "list" ∧ ∃ xs,SqL K H p xs) ∨ (T = "tuple" ∧ ∃ o,K.lookup p = some o ∧ o.cls = .type "tuple" ∧ o.dict = none) ∨
   (T = "dict" ∧ ((∃ kvs,H p = some (.dK kvs)) ∨ ∃ kvs,H p = some (.dT kvs))) ∨ (T = "set" ∧ ∃ S n,H p = some (.set S n))
 | _=>False
theorem tyV_is {pins:List (Addr × Obj)} {σ:St} {H:Hp} {s:Shared} {T:String} {x:V} {v:Value} (I:Inv X pins σ H s) (r:RelV x v) (ty:tyV X.K T x H) :
  s.TypeIs v T ∧ ∀ a,v = .ref a → ∃ ob,s.heap.get? a = some ob ∧ ob.dict = none:=by
 cases x with
 | str z =>
  obtain ⟨t,rfl⟩:=r
  cases (show T = "str" from ty)
  exact ⟨typeIs_str s z t,fun _ e=>nomatch e⟩
 | int i =>
  obtain ⟨t,rfl⟩:=r
  cases (show T = "int" from ty)
  exact ⟨typeIs_int s i t,fun _ e=>nomatch e⟩
 | ref p =>
  cases r
  rcases ty with ⟨rfl,xs,hq⟩ | ⟨rfl,o,hk,hc,hd⟩ | ⟨rfl,hk⟩ | ⟨rfl,S,n,hk⟩
  ·obtain ⟨its,_,pl,_⟩:=I.list hq
   refine ⟨pl.isList.typeIs,fun a e=>?_⟩
   cases e
   obtain ⟨o,n,e,c,hd,_⟩:=pl
   exact ⟨o,e,hd⟩
  ·refine ⟨⟨o,I.kIn p o hk,hc⟩,fun a e=>?_⟩
   cases e
   exact ⟨o,I.kIn _ o hk,hd⟩
  ·have z:∃ o,s.heap.get? p = some o ∧ o.ExactDict:=by
    rcases hk with ⟨kvs,hk⟩ | ⟨kvs,hk⟩
    ·obtain ⟨_,_,_,_,o,_,_,e,ex,_⟩:=I.hok p _ hk
     exact ⟨o,e,ex⟩
    ·obtain ⟨_,_,_,_,o,_,_,e,ex,_⟩:=I.hok p _ hk
     exact ⟨o,e,ex⟩
   obtain ⟨o,e,ex⟩:=z
   refine ⟨⟨o,e,ex.1⟩,fun a e2=>?_⟩
   cases e2
   exact ⟨o,e,ex.2.1⟩
  ·obtain ⟨o,_,_,_,e,ex,_⟩:=I.hok p _ hk
   refine ⟨⟨o,e,ex.1⟩,fun a e2=>?_⟩
   cases e2
   exact ⟨o,e,ex.2.1⟩
 | _=>exact False.elim ty
noncomputable def tBM (K:PySem.W.Frag) (T:String) (r:V → List V → Hp → VK → Prop) (to:TE) (t:TA):TE:=fun σ H Q=>to σ H fun x H1=>tyV K T x H1 ∧ t σ H1 fun xs H2=>r x xs H2 Q
variable {o e:Expr} {es:List Expr} {to:TE} {t:TA} {name:Str} {apos cpos:Pos} {T id:String} {r:V → List V → Hp → VK → Prop}
theorem pe_bm (pa:PlainAttrs T) (slot:Slot T name id) (hty:typeOf (.builtin id) = pure (.type "method_descriptor")) (hm:MtR X id r) (ho:PE X o to) (ha:PA X (e :: es) t)
  (hbase:attributeBase o name X.env (eval o X.env) = eval o X.env:=by rfl)
  (hfew:((backTo cpos (starEach (e :: es) X.env)).all (fun x=>!x.1) && (backToKw cpos (keywordEach [] X.env)).all (fun x=>x.1.isSome)
   && decide ((e :: es).length + ([]:List Keyword).length + (if ([]:List Keyword).isEmpty then 0 else 1) < 30)) = true:=by rfl)
  (hline:(apos.endLine == cpos.line) = true:=by rfl) (hs:starEach (e :: es) X.env = (false,eval e X.env) :: starEach es X.env:=by rfl) (hplain:(backTo cpos (starEach es X.env)).any (·.1) = false:=by rfl) :
  PE X (.Call (.Attribute o name apos) (e :: es) [] cpos) (tBM X.K T r to t):=by
 intro pins s σ H Q I h
 refine wpAny_Call_method_late hbase hfew hline rfl (thn (ho pins s σ H _ I h) fun v s1 ⟨x,H1,I1,r1,ty,q1⟩=>?_)
 obtain ⟨h1,h2⟩:=tyV_is I1 r1 ty
 refine ⟨T,id,pa,slot,hty,h1,h2,?_⟩
 have hA:=ha cpos pins s1 σ H1 _ I1 q1
 rw [hs] at hA ⊢
 refine Calls.callWith_builtin (by show (false || (backTo cpos (starEach es X.env)).any (·.1)) = false; rw [hplain] <;> rfl) (Calls.evalArgs_plain ?_)
 exact thn hA fun us s2 ⟨vs,H2,I2,r2,q2⟩=>hm pins s2 σ H2 x vs v us Q I2 r1 r2 q2
end
end L2
namespace L2
open PySem PySem.Spec PyProof.Rows
noncomputable def MtM (X:Cx) (id:String) (r:V → List V → Hp → VK → Prop):Prop :=
 ∀ (pins:List (Addr × Obj)) (s:Shared) (σ:St) (H:Hp) (x:V) (xs:List V) (v:Value) (us:List Value) (Q:VK),Inv X pins σ H s → RelV x v → Vals xs us → r x xs H Q →
  wpAny (model X.prog X.w) X.A (call (.builtin id) (v :: us)) (EP X pins σ Q) X.xe s
theorem Vals.one:∀ {x:V} {us:List Value},Vals [x] us → ∃ u,us = [u] ∧ RelV x u
 | _,_,.cons r .nil=>⟨_,rfl,r⟩
theorem Vals.rep {xs:List V} {us:List Value} (h:Vals xs us):∀ k:Nat,Vals (List.replicate k xs).flatten (List.replicate k us).flatten
 | 0=>.nil
 | k + 1=>by
  rw [List.replicate_succ,List.replicate_succ,List.flatten_cons,List.flatten_cons]
  exact Vals.append h (Vals.rep h k)
theorem foldl_rep (its:List Value):∀ (k:Nat) (acc:List Value),
  List.foldl (fun x1 x2=>x1 ++ x2) acc.toArray (List.replicate k its.toArray) = (acc ++ (List.replicate k its).flatten).toArray
 | 0,acc=>by simp
 | k + 1,acc=>by
  have e:acc.toArray ++ its.toArray = (acc ++ its).toArray:=by simp
  have e2:(acc ++ its) ++ (List.replicate k its).flatten = acc ++ (List.replicate (k + 1) its).flatten:=by
   rw [List.replicate_succ,List.flatten_cons,List.append_assoc]
  rw [← e2,← foldl_rep its k (acc ++ its),← e,List.replicate_succ,List.foldl_cons]
section
variable {X:Cx} {pins:List (Addr × Obj)} {σ:St} {H:Hp} {s:Shared} {l b:Addr} {xs ys zs:List V}
theorem Inv.lset {its its':List Value} {n:Nat} {f:Array Value → Array Value} {t':Nat} (I:Inv X pins σ H s) (hH:H l = some (.lst xs))
  (e:s.heap.get? l = some { cls:=.type "list",data:=.seq its.toArray n }) (hf:f its.toArray = its'.toArray) (hv:Vals ys its') (hz:ys.length ≤ sizeLine) :
  Inv X pins σ (upd H l (.lst ys)) { s with heap:=s.heap.update l (Obj.mapSeq f),toks:=t' }:=by
 have q:=PySem.IsL.update e f
 rw [hf] at q
 refine I.write (x:=l) (e:=l) (by rw [hH]; exact trivial) (.inl rfl) (fun b' u hb hu=>(Heap.get?_update_other s.heap (Obj.mapSeq f) (Ne.symm hb)).trans hu) ⟨_,q⟩ ?_
 exact ⟨hz,its',_,hv,q⟩
theorem Inv.lnew {its:List Value} {t':Nat} (I:Inv X pins σ H s) (hv:Vals ys its) (hz:ys.length ≤ sizeLine) :
  Inv X pins σ (upd H s.heap.objs.size (.lst ys)) { s with heap:=s.heap.push { cls:=.type "list",data:=.seq its.toArray },toks:=t' } :=
 I.laid (fun _ _ q=>Heap.get?_push_of_some _ q) (Nat.le_refl _) ⟨hz,its,0,hv,Heap.get?_push_size _ rfl⟩
theorem Inv.fresh (I:Inv X pins σ H s):H s.heap.objs.size = none:=I.hok.fresh (Nat.le_refl _)
theorem Inv.lstM (I:Inv X pins σ H s) (hH:H l = some (.lst xs)):xs.length ≤ sizeLine ∧ ∃ (its:List Value) (n:Nat),Vals xs its ∧ xs.length = its.length ∧ s.heap.get? l = some { cls:=.type "list",data:=.seq its.toArray n }:=by
 obtain ⟨z,its,n,r,e⟩:=I.hok l _ hH
 exact ⟨z,its,n,r,r.length,e⟩
theorem notLongL {n:Nat} (h:n ≤ sizeLine):Builtin.List.listTooLong n = false:=by
 unfold Builtin.List.listTooLong
 exact decide_eq_false (by omega)
end
section
variable {X:Cx}
noncomputable def rAppend:V → List V → Hp → VK → Prop:=fun x vs H Q=>∃ l xs y,x = .ref l ∧ vs = [y] ∧ H l = some (.lst xs) ∧ xs.length < sizeLine ∧ Q .non (upd H l (.lst (xs ++ [y])))
theorem mt_append:MtM X "list.append" rAppend:=by
 intro pins s σ H x vs v us Q I rx rv h
 obtain ⟨l,xs,y,rfl,rfl,hH,hz,q⟩:=h
 cases rx
 obtain ⟨u,rfl,ru⟩:=rv.one
 obtain ⟨z,its,n,r,hl,e⟩:=I.lstM hH
 refine call_meets F.slot_list_append ⟨_,e,rfl⟩ F.entry_list_append (F.args_list_append_2 _ _) (PySem.list_append l its.toArray n u (by rw [List.size_toArray]; omega)) ⟨e,?_⟩
 refine ⟨.non,_,I.lset (its':=its ++ [u]) hH e (by simp) (r.append (.cons ru .nil)) ?_,rfl,q⟩
 rw [List.length_append,List.length_singleton]
 omega
noncomputable def rExtend:V → List V → Hp → VK → Prop:=fun x vs H Q=>∃ l b xs zs,x = .ref l ∧ vs = [.ref b] ∧ H l = some (.lst xs) ∧ H b = some (.lst zs) ∧ xs.length + zs.length ≤ sizeLine ∧ Q .non (upd H l (.lst (xs ++ zs)))
theorem mt_extend:MtM X "list.extend" rExtend:=by
 intro pins s σ H x vs v us Q I rx rv h
 obtain ⟨l,b,xs,zs,rfl,rfl,hH,hB,hz,q⟩:=h
 cases rx
 obtain ⟨u,rfl,ru⟩:=rv.one
 cases ru
 obtain ⟨z,its,n,r,hl,e⟩:=I.lstM hH
 obtain ⟨z2,its2,n2,r2,hl2,e2⟩:=I.lstM hB
 have hsz:its.toArray.size + its2.toArray.size ≤ sizeLine:=by rw [List.size_toArray,List.size_toArray]; omega
 have hlong:¬ (!its.toArray.isEmpty && Builtin.List.listTooLong (its.toArray.size + its2.toArray.size)) = true:=by
  rw [notLongL hsz,Bool.and_false]
  exact Bool.false_ne_true
 refine call_meets F.slot_list_extend ⟨_,e,rfl⟩ F.entry_list_extend (F.args_list_extend_2 _ _)
  (AutoSeq1.list_extend_list_list_0 l its.toArray n b its2.toArray n2 hlong (by rw [List.size_toArray]; omega) (by omega)) ⟨e,e2,?_⟩
 refine ⟨.non,_,I.lset (its':=its ++ its2) hH e (by simp) (r.append r2) ?_,rfl,q⟩
 rw [List.length_append]
 omega
noncomputable def rCat:R2:=fun x y H Q=>∃ l b xs zs,x = .ref l ∧ y = .ref b ∧ H l = some (.lst xs) ∧ H b = some (.lst zs) ∧ xs.length + zs.length ≤ sizeLine ∧ ∀ p,H p = none → Q (.ref p) (upd H p (.lst (xs ++ zs)))
theorem op_cat:OpR X (binaryOp .Add) rCat:=by
 intro pins s σ H x y v u Q I rx ry h
 obtain ⟨l,b,xs,zs,rfl,rfl,hH,hB,hz,q⟩:=h
 cases rx
 cases ry
 obtain ⟨z,its,n,r,hl,e⟩:=I.lstM hH
 obtain ⟨z2,its2,n2,r2,hl2,e2⟩:=I.lstM hB
 refine PySem.P.add_list e e2 ?_ (by rw [List.size_toArray,List.size_toArray]; omega)
 have ea:its.toArray ++ its2.toArray = (its ++ its2).toArray:=by simp
 rw [ea]
 exact ⟨.ref _,_,I.lnew (t':=s.toks) (r.append r2) (by rw [List.length_append]; omega),rfl,q _ I.fresh⟩
noncomputable def rRep:R2:=fun x y H Q=>∃ l k xs,x = .ref l ∧ y = .int k ∧ H l = some (.lst xs) ∧ -(2 ^ 63) ≤ k ∧ k < 2 ^ 63 ∧ xs.length * k.toNat ≤ sizeLine ∧
 ∀ p,H p = none → Q (.ref p) (upd H p (.lst (List.replicate k.toNat xs).flatten))
theorem len_rep {α:Type} (xs:List α) (k:Nat):(List.replicate k xs).flatten.length = k * xs.length:=by
 induction k with
 | zero=>simp
 | succ k ih=>rw [List.replicate_succ,List.flatten_cons,List.length_append,ih,Nat.succ_mul,Nat.add_comm]
theorem op_rep:OpR X (binaryOp .Mult) rRep:=by
 intro pins s σ H x y v u Q I rx ry h
 obtain ⟨l,k,xs,rfl,rfl,hH,h1,h2,hz,q⟩:=h
 cases rx
 obtain ⟨t,rfl⟩:=ry
 obtain ⟨z,its,n,r,hl,e⟩:=I.lstM hH
 have hlen:its.toArray.size * k.toNat ≤ sizeLine:=by rw [List.size_toArray,← hl]; exact hz
 have hcap:¬ its.toArray.size * k.toNat > (2 ^ 63 - 1) / 8:=by
  have:(sizeLine:Nat) ≤ (2 ^ 63 - 1) / 8:=by decide
  omega
 have hfit:¬ (!Builtin.List.listFitsIndex k) = true:=by
  rw [fitsIndex_both h1 h2]
  exact Bool.false_ne_true
 have hlong:¬ Builtin.List.listTooLong (its.toArray.size * k.toNat) = true:=by
  rw [notLongL hlen]
  exact Bool.false_ne_true
 have hnew:List.foldl (fun x1 x2=>x1 ++ x2) #[] (List.replicate (if its.toArray.isEmpty = true then 0 else k.toNat) its.toArray) = (List.replicate k.toNat its).flatten.toArray:=by
  have f0:∀ m:Nat,List.foldl (fun x1 x2=>x1 ++ x2) #[] (List.replicate m its.toArray) = (List.replicate m its).flatten.toArray:=fun m=>by
   have:=foldl_rep its m []
   rw [List.nil_append] at this
   exact this
  rw [f0]
  cases its with
  | nil=>simp
  | cons a r'=>rw [if_neg (by simp)]
 refine wpAny_binaryOp_repeat_ref (T:="list") (U:="int") (by decide) ⟨_,e,rfl⟩ (fun s'=>typeIs_int s' k t) noFill_list_mul F.fills_int_mul F.slot_int_rmul repeat_list F.slot_int_index.lookup
  (call_meets F.slot_int_rmul (typeIs_int s k t) F.entry_int_rmul (F.args_int_rmul_2 _ _) (int___rmul___int_list k t l its.toArray n)
   ⟨e,rfl,⟨_,e,rfl⟩,call_meets F.slot_list_mul ⟨_,e,rfl⟩ F.entry_list_mul (F.args_list_mul_2 _ _) (AutoListH.list___mul___list_int_3 l its.toArray n k t hfit hcap hlong) ⟨e,?_⟩⟩)
 rw [hnew]
 exact ⟨.ref _,_,I.lnew (t':=s.toks) (r.rep k.toNat) (by rw [len_rep,Nat.mul_comm]; exact hz),rfl,q _ I.fresh⟩
end
section
variable {prog:Program} {w:World} {A:Around} {E:Value → Shared → Prop} {s:Shared}
set_option maxRecDepth 100000 in
end
section
variable {X:Cx}
end
end L2
namespace L2
open PySem PySem.Spec PyProof.Rows
section
variable {prog:Program} {w:World} {A:Around} {E:Value → Shared → Prop} {s:Shared} {l:Addr} {its:List Value} {ns:List Int} {Q:Value → Shared → Prop}
end
section
variable {X:Cx}
end
section
variable {X:Cx}
end
section
variable {X:Cx}
end
section
variable {X:Cx}
end
section
variable {X:Cx} {pins:List (Addr × Obj)} {σ:St} {H:Hp} {s:Shared}
end
section
variable {X:Cx}
end
end L2
namespace L2
open PySem PySem.Spec PyProof.Rows
noncomputable abbrev CellAt (h:Heap) (c:Addr) (v:Option Value):Prop:=h.IsCell c v
noncomputable def relS (scope sc:Scope):Scope :=
 { scope with names:=scope.names.map fun (n,k)=>if (k == .free && sc.kind == .function && sc.names.lookup n == some .cell) then (n,.cell) else (n,k) }
noncomputable def cloFrom (cells:List (Str × Addr)):List (Str × NameKind) → List (Str × Addr) → List (Str × Addr)
 | [],acc=>acc
 | (n,k) :: r,acc=>if k == .free then cloFrom cells r ((n,(cells.lookup n).getD 0) :: acc) else cloFrom cells r acc
theorem closure_loop (env:Env) (f:Str × NameKind → List (Str × Addr) → Sem (ForInStep (List (Str × Addr))))
  (hf:∀ n k c,f (n,k) c = if k == .free then (do let a ← cellOf env n; pure (.yield ((n,a) :: c))) else pure (.yield c)) :
  ∀ (names:List (Str × NameKind)) (acc:List (Str × Addr)),(∀ y ∈ names,y.2 = .free → ∃ c,env.cells.lookup y.1 = some c) → forIn names acc f = pure (cloFrom env.cells names acc)
 | [],acc,_=>by rw [List.forIn_nil]; rfl
 | (n,k) :: r,acc,h=>by
  rw [List.forIn_cons,hf]
  have ih:=fun acc=>closure_loop env f hf r acc fun y hy=>h y (List.mem_cons_of_mem _ hy)
  unfold cloFrom
  by_cases hk:(k == NameKind.free) = true
  ·rw [if_pos hk,if_pos hk]
   obtain ⟨c,hc⟩:=h (n,k) List.mem_cons_self (by simpa using hk)
   have e:cellOf env n = pure c:=by unfold cellOf; rw [hc]
   rw [e]
   have e2:(env.cells.lookup n).getD 0 = c:=by rw [hc]; rfl
   rw [e2]
   exact ih _
  ·rw [if_neg hk,if_neg hk]
   exact ih _
theorem closure_ok {scope:Scope} {env:Env} (h:∀ y ∈ scope.names,y.2 = .free → ∃ c,env.cells.lookup y.1 = some c):closureFor scope env = pure (cloFrom env.cells scope.names []):=by
 simp only [closureFor]
 rw [closure_loop env _ (fun n k c=>rfl) scope.names [] h]
 rfl
theorem mem_lookup {α:Type}:∀ {l:List (Str × α)} {n:Str} {c:α},(n,c) ∈ l → ∃ c',l.lookup n = some c'
 | (k,v) :: r,n,c,h=>by
  rw [List.lookup_cons]
  cases hb:n == k with
  | true=>exact ⟨_,rfl⟩
  | false =>
   rcases List.mem_cons.mp h with e | h
   ·cases e; simp at hb
   ·exact mem_lookup h
theorem cloFrom_mem {cells:List (Str × Addr)}:∀ {names:List (Str × NameKind)} {acc:List (Str × Addr)} {n:Str} {c:Addr},(n,c) ∈ cloFrom cells names acc → (n,c) ∈ acc ∨ ((n,.free) ∈ names ∧ c = (cells.lookup n).getD 0)
 | [],_,_,_,h=>.inl h
 | (m,k) :: r,acc,n,c,h=>by
  unfold cloFrom at h
  split at h
  ·rename_i hk
   have hk:k = .free:=by simpa using hk
   rcases cloFrom_mem h with h | ⟨h1,h2⟩
   ·rcases List.mem_cons.mp h with e | h
    ·cases e; exact .inr ⟨hk ▸ List.mem_cons_self,rfl⟩
    ·exact .inl h
   ·exact .inr ⟨List.mem_cons_of_mem _ h1,h2⟩
  ·rcases cloFrom_mem h with h | ⟨h1,h2⟩
   ·exact .inl h
   ·exact .inr ⟨List.mem_cons_of_mem _ h1,h2⟩
theorem cloFrom_acc {cells:List (Str × Addr)}:∀ {names:List (Str × NameKind)} {acc:List (Str × Addr)} {p:Str × Addr},p ∈ acc → p ∈ cloFrom cells names acc
 | [],_,_,h=>h
 | (m,k) :: r,acc,p,h=>by
  unfold cloFrom
  split
  ·exact cloFrom_acc (List.mem_cons_of_mem _ h)
  ·exact cloFrom_acc h
theorem cloFrom_has {cells:List (Str × Addr)}:∀ {names:List (Str × NameKind)} {acc:List (Str × Addr)} {n:Str},(n,.free) ∈ names → (n,(cells.lookup n).getD 0) ∈ cloFrom cells names acc
 | (m,k) :: r,acc,n,h=>by
  unfold cloFrom
  rcases List.mem_cons.mp h with e | h
  ·cases e
   exact cloFrom_acc List.mem_cons_self
  ·split
   ·exact cloFrom_has h
   ·exact cloFrom_has h
theorem cells_mem:∀ {names:List (Str × NameKind)} {h:Heap} {acc:List (Str × Addr)} {x:Str} {c:Addr},(x,c) ∈ cellsFrom h.objs.size names acc →
  (x,c) ∈ acc ∨ ((x,.cell) ∈ names ∧ h.objs.size ≤ c ∧ CellAt (pushCells h names) c none)
 | [],_,_,_,_,h=>.inl h
 | (n,k) :: r,h,acc,x,c,hm=>by
  unfold cellsFrom at hm
  unfold pushCells
  split at hm
  ·rename_i hk
   rw [if_pos hk]
   have hk:k = .cell:=by simpa using hk
   rw [← Heap.size_push h { cls:=.type "cell",data:=.cell none }] at hm
   rcases cells_mem hm with hm | ⟨h1,h2,h3⟩
   ·rcases List.mem_cons.mp hm with e | hm
    ·cases e
     exact .inr ⟨hk ▸ List.mem_cons_self,Nat.le_refl _,_,pushCells_keeps r _ _ _ (Heap.get?_push_size _ rfl),rfl⟩
    ·exact .inl hm
   ·rw [Heap.size_push] at h2
    exact .inr ⟨List.mem_cons_of_mem _ h1,Nat.le_of_succ_le h2,h3⟩
  ·rename_i hk
   rw [if_neg hk]
   rcases cells_mem hm with hm | ⟨h1,h2,h3⟩
   ·exact .inl hm
   ·exact .inr ⟨List.mem_cons_of_mem _ h1,h2,h3⟩
theorem cells_acc:∀ {names:List (Str × NameKind)} {n:Nat} {acc:List (Str × Addr)} {p:Str × Addr},p ∈ acc → p ∈ cellsFrom n names acc
 | [],_,_,_,h=>h
 | (m,k) :: r,n,acc,p,h=>by
  unfold cellsFrom
  split
  ·exact cells_acc (List.mem_cons_of_mem _ h)
  ·exact cells_acc h
theorem cells_has:∀ {names:List (Str × NameKind)} {n:Nat} {acc:List (Str × Addr)} {x:Str},(x,.cell) ∈ names → ∃ c,(x,c) ∈ cellsFrom n names acc
 | (m,k) :: r,n,acc,x,h=>by
  unfold cellsFrom
  rcases List.mem_cons.mp h with e | h
  ·cases e
   exact ⟨n,cells_acc List.mem_cons_self⟩
  ·split
   ·exact cells_has h
   ·exact cells_has h
theorem cells_inj:∀ {names:List (Str × NameKind)} {h:Heap} {acc:List (Str × Addr)} {x y:Str} {c:Addr},(∀ p ∈ acc,p.2 < h.objs.size) → (∀ x y c,(x,c) ∈ acc → (y,c) ∈ acc → x = y) →
  (x,c) ∈ cellsFrom h.objs.size names acc → (y,c) ∈ cellsFrom h.objs.size names acc → x = y
 | [],_,_,_,_,_,_,hi,h1,h2=>hi _ _ _ h1 h2
 | (n,k) :: r,h,acc,x,y,c,hl,hi,h1,h2=>by
  unfold cellsFrom at h1 h2
  split at h1
  ·rename_i hk
   rw [if_pos hk] at h2
   rw [← Heap.size_push h { cls:=.type "cell",data:=.cell none }] at h1 h2
   refine cells_inj (h:=h.push _) (fun p hp=>?_) (fun x y c a b=>?_) h1 h2
   ·rw [Heap.size_push]
    rcases List.mem_cons.mp hp with rfl | hp
    ·exact Nat.lt_succ_self _
    ·exact Nat.lt_succ_of_lt (hl p hp)
   ·rcases List.mem_cons.mp a with e | a <;> rcases List.mem_cons.mp b with e' | b
    ·cases e; cases e'; rfl
    ·cases e; exact absurd (hl _ b) (Nat.lt_irrefl _)
    ·cases e'; exact absurd (hl _ a) (Nat.lt_irrefl _)
    ·exact hi _ _ _ a b
  ·rename_i hk
   rw [if_neg hk] at h2
   exact cells_inj hl hi h1 h2
theorem newEnv_comp {M:Model} {A:Around} {E:Value → Shared → Prop} {s:Shared} {scope:Scope} {globals:Addr} {closure:List (Str × Addr)} {qual:Str} {func:Option Addr} {code:Value} {around:Env} {builtins:Addr} {Q:Env → Shared → Prop}
  (h:Q (newEnv scope s.heap.objs.size globals (cellsFrom (s.heap.objs.size + 1) scope.names closure) qual func code (some around) builtins)
   { s with heap:=pushCells (s.heap.push { cls:=.type "dict",data:=.dict #[] }) scope.names }) :
  wpAny M A (newFunctionEnv scope globals closure [] qual func code (some around) builtins) Q E s:=by
 simp only [newFunctionEnv,Option.isSome_some,if_true]
 refine wpAny_bind (wpAny_alloc ?_)
 refine wpAny_bind (wpAny_layCells _ (fun n k c=>rfl) scope.names closure _ _ ?_)
 rw [show ({ s with heap:=s.heap.push { cls:=.type "dict",data:=.dict #[] } }:Shared).heap.objs.size = s.heap.objs.size + 1 from Heap.size_push ..]
 rw [List.forIn_nil]
 exact wpAny_bind (wpAny_pure (wpAny_pure h))
theorem lookup_relS {sc:Scope}:∀ {names:List (Str × NameKind)} {x:Str} {k:NameKind},
  (names.map fun (n,k)=>if (k == NameKind.free && sc.kind == .function && sc.names.lookup n == some .cell) then (n,NameKind.cell) else (n,k)).lookup x = some k →
  ∃ k',names.lookup x = some k' ∧ (k = k' ∨ (k' = .free ∧ k = .cell))
 | [],_,_,h=>by simp at h
 | (n,k₀) :: r,x,k,h=>by
  have ih:=@lookup_relS sc r x k
  have h':List.lookup x ((if (k₀ == NameKind.free && sc.kind == .function && sc.names.lookup n == some .cell) = true then (n,NameKind.cell) else (n,k₀)) :: (r.map _)) = some k:=h
  cases hx:x == n with
  | true =>
   simp only [List.lookup_cons,hx]
   by_cases hc:(k₀ == NameKind.free && sc.kind == .function && sc.names.lookup n == some .cell) = true
   ·rw [if_pos hc] at h'
    simp only [List.lookup_cons,hx] at h'
    cases h'
    simp only [Bool.and_eq_true,beq_iff_eq] at hc
    exact ⟨k₀,rfl,.inr ⟨hc.1.1,rfl⟩⟩
   ·rw [if_neg hc] at h'
    simp only [List.lookup_cons,hx] at h'
    cases h'
    exact ⟨_,rfl,.inl rfl⟩
  | false =>
   simp only [List.lookup_cons,hx]
   by_cases hc:(k₀ == NameKind.free && sc.kind == .function && sc.names.lookup n == some .cell) = true
   ·rw [if_pos hc] at h'
    simp only [List.lookup_cons,hx] at h'
    exact ih h'
   ·rw [if_neg hc] at h'
    simp only [List.lookup_cons,hx] at h'
    exact ih h'
structure BlkOk (N:List Str) (sc scope:Scope) (own:List (Str × Nat)):Prop where
 kind:scope.kind = .function
 uniq:∀ y ∈ scope.names,scope.names.lookup y.1 = some y.2
 ix:∀ p ∈ own,N[p.2]? = some p.1
 free:∀ y ∈ scope.names,y.2 = .free → sc.names.lookup y.1 = some .cell ∨ sc.names.lookup y.1 = some .free
 own:∀ y ∈ scope.names,y.2 = .local ∨ y.2 = .cell → y.1 ∈ own.map (·.1) ∨ y.1 ∉ N
noncomputable def wipe (σ:St):List Nat → St
 | []=>σ
 | v :: vs=>(wipe σ vs).set v none
theorem wipe_length (σ:St):∀ vs:List Nat,(wipe σ vs).length = σ.length
 | []=>rfl
 | v :: vs=>by unfold wipe; rw [List.length_set,wipe_length σ vs]
theorem wipe_some {σ:St} {i:Nat} {x:V}:∀ {vs:List Nat},(wipe σ vs)[i]? = some (some x) → σ[i]? = some (some x) ∧ i ∉ vs
 | [],h=>⟨h,by simp⟩
 | v :: vs,h=>by
  unfold wipe at h
  by_cases hi:v = i
  ·subst hi
   by_cases hv:v < (wipe σ vs).length
   ·rw [List.getElem?_set_self hv] at h; cases h
   ·rw [List.getElem?_eq_none (by simpa using hv)] at h; cases h
  ·rw [List.getElem?_set_ne hi] at h
   obtain ⟨h1,h2⟩:=wipe_some h
   exact ⟨h1,by simp only [List.mem_cons,not_or]; exact ⟨fun e=>hi e.symm,h2⟩⟩
noncomputable abbrev Cx.blk (X:Cx) (s:Shared) (H:Hp) (scope:Scope) (cenv:Env) (fp:List Addr):Cx:={ X with s_0:=s,H_0:=H,env:=cenv,outer:=X.stack,ex:=fp,fn:=fun x=>scope.names.lookup x == some .cell,pn:=[],xe:=fun _ _=>False }
section
variable {X:Cx} {pins:List (Addr × Obj)} {σ:St} {H:Hp} {s:Shared}
theorem block_start {scope:Scope} {own:List (Str × Nat)} {fp:List Addr} (I:Inv X pins σ H s) (ok:BlkOk X.N X.env.scope scope own) (hN:X.N.Nodup) (hfp:∀ b ∈ fp,FpOk X pins H b ∧ b < s.heap.objs.size) :
  Inv (X.blk s H scope (compEnvC scope (cellsFrom (s.heap.objs.size + 1) scope.names (cloFrom X.env.cells scope.names [])) s.heap.objs.size X.env) fp) [] (wipe σ (own.map (·.2))) H { s with heap:=pushCells (s.heap.push { cls:=.type "dict",data:=.dict #[] }) scope.names }:=by
 have hfree:∀ y ∈ scope.names,y.2 = .free → ∃ c,X.env.cells.lookup y.1 = some c:=fun y hy e=>by
  rcases ok.free y hy e with k | k
  ·exact I.ok.has _ (.inl k)
  ·exact I.ok.has _ (.inr k)
 generalize hcenv:compEnvC scope (cellsFrom (s.heap.objs.size + 1) scope.names (cloFrom X.env.cells scope.names [])) s.heap.objs.size X.env = cenv
 have kp:∀ b o,s.heap.get? b = some o → (pushCells (s.heap.push { cls:=.type "dict",data:=.dict #[] }) scope.names).get? b = some o:=fun b o e=>pushCells_keeps _ _ _ _ (Heap.get?_push_of_some _ e)
 have hL:cenv.locals = s.heap.objs.size:=by rw [← hcenv]; rfl
 have hcl:cenv.cells = cellsFrom (s.heap.objs.size + 1) scope.names (cloFrom X.env.cells scope.names []):=by rw [← hcenv]; rfl
 have hsc:cenv.scope = relS scope X.env.scope:=by rw [← hcenv]; rfl
 rw [← Heap.size_push s.heap { cls:=.type "dict",data:=.dict #[] }] at hcl
 have cm:∀ {y c},(y,c) ∈ cloFrom X.env.cells scope.names [] → X.env.cells.lookup y = some c ∧ c < s.heap.objs.size:=fun {y c} hm=>by
  rcases cloFrom_mem hm with hm | ⟨h1,rfl⟩
  ·cases hm
  ·obtain ⟨c,hc⟩:=hfree _ h1 rfl
   rw [hc]
   obtain ⟨w,z⟩:=I.cell _ _ hc
   exact ⟨rfl,z.lt⟩
 have mem:∀ {y c},cenv.cells.lookup y = some c → (X.env.cells.lookup y = some c ∧ c < s.heap.objs.size) ∨ (s.heap.objs.size + 1 ≤ c ∧ CellAt (pushCells (s.heap.push { cls:=.type "dict",data:=.dict #[] }) scope.names) c none):=fun {y c} e=>by
  rw [hcl] at e
  rcases cells_mem (PySem.mem_of_lookup e) with hm | ⟨_,h2,h3⟩
  ·exact .inl (cm hm)
  ·rw [Heap.size_push] at h2; exact .inr ⟨h2,h3⟩
 have look:∀ {y},scope.names.lookup y = some .free → ∃ c,cenv.cells.lookup y = some c ∧ X.env.cells.lookup y = some c:=fun {y} hl=>by
  have hy:(y,NameKind.free) ∈ scope.names:=PySem.mem_of_lookup hl
  obtain ⟨c',e'⟩:=mem_lookup (cells_acc (names:=scope.names) (n:=(s.heap.push { cls:=.type "dict",data:=.dict #[] }).objs.size) (cloFrom_has (cells:=X.env.cells) (acc:=[]) hy))
  rw [← hcl] at e'
  refine ⟨c',e',?_⟩
  rw [hcl] at e'
  rcases cells_mem (PySem.mem_of_lookup e') with hm | ⟨h1,_,_⟩
  ·exact (cm hm).1
  ·have:=ok.uniq _ h1
   rw [hl] at this; cases this
 have okB:(X.blk s H scope cenv fp).Ok:=by
  refine ⟨I.ok.mod,by show cenv.scope.kind = _; rw [hsc]; exact ok.kind,by show cenv.globals = _; rw [← hcenv]; exact I.ok.glob,by show cenv.builtins = _; rw [← hcenv]; exact I.ok.blt,by show s.heap.objs.size ≤ cenv.locals; rw [hL]; exact Nat.le_refl _,
   fun y z c e1 e2=>?_,fun y hy=>?_,fun y c z e=>?_,I.ok.hd,I.ok.frames,.inl rfl,fun b hb=>⟨?_,fun y c e z=>?_⟩,I.bs,Nat.le_trans I.ok.bsz I.sz,fun b o e hb=>?_,fun b hb z=>?_,I.stack,I.stkFree⟩
  ·have e1:cenv.cells.lookup y = some c:=e1
   have e2:cenv.cells.lookup z = some c:=e2
   rw [hcl] at e1 e2
   refine cells_inj (fun p hp=>?_) (fun y z c a b=>I.ok.inj y z c (cm a).1 (cm b).1) (PySem.mem_of_lookup e1) (PySem.mem_of_lookup e2)
   rw [Heap.size_push]
   exact Nat.lt_succ_of_lt (cm (y:=p.1) (c:=p.2) hp).2
  ·show ∃ c,cenv.cells.lookup y = some c
   have key:∀ k,cenv.kindOf y = some k → (k = .cell ∨ k = .free) → ∃ c,cenv.cells.lookup y = some c:=fun k hk hk'=>by
    unfold Env.kindOf at hk
    rw [hsc] at hk
    obtain ⟨k',e,r⟩:=lookup_relS hk
    have:k' = .cell ∨ k' = .free:=by
     rcases r with rfl | ⟨rfl,_⟩
     ·exact hk'
     ·exact .inr rfl
    rcases this with rfl | rfl
    ·obtain ⟨c,hm⟩:=cells_has (n:=(s.heap.push { cls:=.type "dict",data:=.dict #[] }).objs.size) (acc:=cloFrom X.env.cells scope.names []) (PySem.mem_of_lookup e)
     obtain ⟨c',e'⟩:=mem_lookup hm
     exact ⟨c',by rw [hcl]; exact e'⟩
    ·obtain ⟨c,h1,_⟩:=look e
     exact ⟨c,h1⟩
   rcases hy with hy | hy
   ·exact key _ hy (.inl rfl)
   ·exact key _ hy (.inr rfl)
  ·have z:(scope.names.lookup y == some NameKind.cell) = true:=z
   have z:scope.names.lookup y = some .cell:=by simpa using z
   have e:cenv.cells.lookup y = some c:=e
   rw [hcl] at e
   rcases cells_mem (PySem.mem_of_lookup e) with hm | ⟨_,h2,_⟩
   ·rcases cloFrom_mem hm with hm | ⟨h1,_⟩
    ·cases hm
    ·have q:=ok.uniq _ h1
     rw [z] at q; cases q
   ·rw [Heap.size_push] at h2
    exact Nat.le_of_succ_le h2
  ·show b ≠ cenv.locals
   rw [hL]; exact Nat.ne_of_lt (hfp b hb).2
  ·have e:cenv.cells.lookup y = some c:=e
   rcases mem e with ⟨h1,_⟩ | ⟨h1,_⟩
   ·exact (hfp b hb).1.2.2.2.2.1 y c h1 z
   ·have h2:s.heap.objs.size + 1 ≤ b:=by rw [← z]; exact h1
    exact absurd (Nat.lt_of_lt_of_le (hfp b hb).2 (Nat.le_of_succ_le h2)) (Nat.lt_irrefl _)
  ·rcases (hfp b hb).1.2.2.2.1 with z | z
   ·exact I.ok.noex b o e z
   ·exact absurd (Nat.lt_of_lt_of_le (Heap.lt_size e) (Nat.le_trans I.ok.bsz z)) (Nat.lt_irrefl _)
  ·rcases List.mem_cons.mp (I.stkSub b z) with z | z
   ·exact (hfp b hb).1.2.1 z
   ·exact (hfp b hb).1.2.2.1 z
 refine ⟨okB,rfl,I.bare,Un.kept kp,⟨fun _=>none,?_,fun i y av e1 e2 e3=>?_⟩,fun y c e=>?_,?_,fun y c e=>?_,fun p hp=>?_,I.hok.kept kp,by rw [wipe_length]; exact I.len⟩
 ·show Heap.Ns _ cenv.locals _
  rw [hL]
  exact Heap.Ns.keeps (Heap.Ns.new ..) fun b o e=>pushCells_keeps _ _ _ _ e
 ·obtain ⟨e2,hne⟩:=wipe_some e2
  have hfr:scope.names.lookup y = some .free ∧ (cenv.kindOf y = some .cell ∨ cenv.kindOf y = some .free):=by
   have key:∀ k,cenv.scope.names.lookup y = some k → k = .local ∨ k = .cell ∨ k = .free → scope.names.lookup y = some .free ∧ (cenv.kindOf y = some .cell ∨ cenv.kindOf y = some .free):=fun k hk hk'=>by
    have hk0:=hk
    rw [hsc] at hk
    obtain ⟨k',e,r⟩:=lookup_relS hk
    have no:¬ (k' = .local ∨ k' = .cell):=fun hh=>by
     rcases ok.own _ (PySem.mem_of_lookup e) hh with e' | e'
     ·obtain ⟨p,hp,hpy⟩:=List.mem_map.mp e'
      have e3:=ok.ix p hp
      have:p.1 = y:=hpy
      rw [this] at e3
      exact hne (List.mem_map.mpr ⟨p,hp,nodup_ix hN e3 e1⟩)
     ·exact e' (List.mem_of_getElem? e1)
    rcases r with rfl | ⟨rfl,rfl⟩
    ·rcases hk' with rfl | rfl | rfl
     ·exact absurd (.inl rfl) no
     ·exact absurd (.inr rfl) no
     ·exact ⟨e,.inr hk0⟩
    ·exact ⟨e,.inl hk0⟩
   have e3:Vis cenv.scope y:=e3
   rcases e3 with e3 | e3 | e3
   ·exact key _ e3 (.inl rfl)
   ·exact key _ e3 (.inr (.inl rfl))
   ·exact key _ e3 (.inr (.inr rfl))
  obtain ⟨m,hn,hl⟩:=I.loc
  have hvis:Vis X.env.scope y:=(ok.free _ (PySem.mem_of_lookup hfr.1) rfl).elim (fun k=>.inr (.inl k)) (fun k=>.inr (.inr k))
  obtain ⟨w,r,q⟩:=hl i y av e1 e2 hvis
  refine ⟨w,r,.inr ⟨hfr.2,?_⟩⟩
  obtain ⟨c,h1,h2⟩:=look hfr.1
  rcases q with ⟨k,_⟩ | ⟨_,c',e',z⟩
  ·have k:X.env.scope.names.lookup y = some .local:=k
   rcases ok.free _ (PySem.mem_of_lookup hfr.1) rfl with k' | k' <;> rw [show X.env.scope.names.lookup y = _ from k'] at k <;> cases k
  ·rw [h2] at e'; cases e'
   exact ⟨c,h1,z.keeps kp⟩
 ·have e:cenv.cells.lookup y = some c:=e
  rcases mem e with ⟨h1,_⟩ | ⟨_,z⟩
  ·obtain ⟨w,z⟩:=I.cell y c h1
   exact ⟨w,z.keeps kp⟩
  ·exact ⟨_,z⟩
 ·show H cenv.locals = none
  rw [hL]; exact I.hok.fresh (Nat.le_refl _)
 ·have e:cenv.cells.lookup y = some c:=e
  rcases mem e with ⟨h1,_⟩ | ⟨h1,_⟩
  ·exact I.freeC y c h1
  ·exact I.hok.fresh (Nat.le_of_succ_le h1)
 ·exact absurd (show p ∈ ([]:List (Addr × Obj)) ++ [] from hp) (by simp)
theorem app_ok {E:Value → Shared → Prop} {D:Addr} {xs:List V} {y:V} {v:Value} {Q:Value → Shared → Prop} (I:Inv X pins σ H s) (hD:H D = some (.lst xs)) (hz:xs.length < sizeLine) (r:RelV y v)
  (h:∀ s',Inv X pins σ (upd H D (.lst (xs ++ [y]))) s' → Q .none s'):wpAny (model X.prog X.w) X.A (call (.builtin "list.append") [.ref D,v]) Q E s:=by
 obtain ⟨hz',its,n,ri,e⟩:=I.hok D _ hD
 have hl:=ri.length
 refine append_at (hsz:=by rw [List.size_toArray]; omega) e fun h' sb ho'=>?_
 refine h { s with heap:=h' } (I.write (t':=s.toks) (by rw [hD]; trivial) (.inl rfl) (fun b u hb q=>(sb.2 b hb).trans q) ⟨_,ho'⟩ ⟨by rw [List.length_append]; exact hz,its ++ [v],n + 1,ri.append (.cons r .nil),?_⟩)
 rw [ho']
 simp
noncomputable def PTs (X:Cx) (ifs:List Expr) (t:TT):Prop :=
 ∀ (pins:List (Addr × Obj)) (s:Shared) (σ:St) (H:Hp) (Q:Bool → Hp → Prop),Inv X pins σ H s → t σ H Q →
  wpAny (model X.prog X.w) X.A (forIn ifs true fun c r=>if r = true then do let ok ← isTrue c X.env (eval c X.env); pure (ForInStep.yield ok) else pure (ForInStep.yield r)) (TP X pins σ Q) X.xe s
noncomputable def tYes:TT:=fun _ H Q=>Q true H
theorem pts_nil:PTs X [] tYes:=fun _ _ _ H _ I h=>wpAny_tests_nil ⟨H,I,h⟩
end
theorem thnF {α:Type} {t:Sem α} {Q Q':α → Shared → Prop} {M:Model} {A:Around} {E:Value → Shared → Prop} {s:Shared} (h:wpAny M A t Q (fun _ _=>False) s) (hQ:∀ a s,Q a s → Q' a s):wpAny M A t Q' E s:=wpAny_mono h hQ fun _ _ z=>False.elim z
theorem compLoop_any {prog:Program} {w:World} {A:Around} {R:Result → Shared → Prop} {s:Shared} {elt target iter:Expr} {ifs:List Expr} {scope:Scope} {pos:Pos} {it acc:Value} {env:Env} (I:Nat → Shared → Prop)
  (turn:∀ n s,I n s → wpAny (model prog w) A (pyNext it) (fun r s₁=>match r with
   | none=>R (.ok .next) s₁
   | some v=>wpAny (model prog w) A (letOwnedTupleGo target it v) (fun _ s₁'=>wpAny (model prog w) A (assign target env v) (fun _ s₂ =>
     wpAny (model prog w) A (forIn ifs true fun c r=>if r = true then do let ok ← isTrue c env (eval c env); pure (ForInStep.yield ok) else pure (ForInStep.yield r)) (fun ok s₃ =>
      if ok = true then wpAny (model prog w) A (eval elt env) (fun x s₄ =>
       wpAny (model prog w) A (call (.builtin "list.append") [acc,x]) (fun _ s₅=>∃ m,m < n ∧ I m s₅) (notedBy (model prog w) A env fun e s'=>R (.error e) s') s₄) (notedBy (model prog w) A env fun e s'=>R (.error e) s') s₃
      else ∃ m,m < n ∧ I m s₃) (notedBy (model prog w) A env fun e s'=>R (.error e) s') s₂) (notedBy (model prog w) A env fun e s'=>R (.error e) s') s₁') (notedBy (model prog w) A env fun e s'=>R (.error e) s') s₁) (notedBy (model prog w) A env fun e s'=>R (.error e) s') s)
  (n:Nat) (h:I n s) :
  codeAny (model prog w) A (.compLoop (.ListComp elt [⟨target,iter,ifs,0⟩] scope pos) 0 it acc env) R s:=by
 refine codeAny_loop rfl I (fun n s hI=>?_) n h
 show wpAny _ A ((compTurn (.ListComp elt [⟨target,iter,ifs,0⟩] scope pos) 0 it acc env).onRaise (fun x=>do noteFrame x env; theTreesLotGoes x)) _ _ s
 refine wpAny_noted ?_
 rw [compTurn_list]
 refine wpAny_bind (wpAny_standAt (wpAny_bind (wpAny_mono (turn n s hI) (fun r s₁ h₁=>?_) fun _ _ h'=>h')))
 cases r with
 | none=>exact wpAny_pure h₁
 | some v =>
  refine wpAny_bind (wpAny_mono h₁ (fun _ s₁' h₁'=>?_) fun _ _ h'=>h')
  refine wpAny_bind (wpAny_mono h₁' (fun _ s₂ h₂=>wpAny_bind (wpAny_mono h₂ (fun ok s₃ h₃=>?_) fun _ _ h'=>h')) fun _ _ h'=>h')
  cases ok with
  | false=>exact wpAny_pure ⟨rfl,h₃⟩
  | true =>
   exact wpAny_bind (wpAny_bind (wpAny_mono h₃ (fun x s₄ h₄=>wpAny_bind (wpAny_mono h₄ (fun _ s₅ h₅=>wpAny_pure (wpAny_pure ⟨rfl,h₅⟩)) fun _ _ h'=>h')) fun _ _ h'=>h'))
section
variable {X:Cx}
noncomputable def tLc (wi:TI) (g:TG) (tt:TT) (te:TE) (vs:List Nat):TE:=fun σ H Q=>wi σ H fun J H1=>∀ D,H1 D = none → ∃ W:Nat → Nat → Hp → Prop,(∃ m,W 0 m (upd H1 D (.lst []))) ∧ ∀ i m H,W i m H →
 (J.stop i H ∧ Q (.ref D) H) ∨ (J.go i H ∧ ∃ Nx:Hp → Prop,(∀ H',Nx H' → ∃ m',m' < m ∧ W (i + 1) m' H') ∧ ∀ x H',J.yld i H x H' → g x (wipe σ vs) H' fun σ2 H2=>wipe σ2 vs = wipe σ vs ∧ tt σ2 H2 fun b H3 =>
  if b = true then te σ2 H3 fun y H4=>∃ acc,H4 D = some (.lst acc) ∧ acc.length < sizeLine ∧ Nx (upd H4 D (.lst (acc ++ [y]))) else Nx H3)
theorem lc_core {pins:List (Addr × Obj)} {s:Shared} {σ:St} {H:Hp} {Q:VK} {elt tg iter:Expr} {ifs:List Expr} {scope:Scope} {own:List (Str × Nat)} {pos pos':Pos} {wi:TI} {g:TG} {tt:TT} {te:TE} {use:Option (Value → Sem Unit)} {Qf:Value → Shared → Prop}
  (hc:X.calm = true) (hN:X.N.Nodup) (I:Inv X pins σ H s) (hi:PI X tg iter wi) (ok:BlkOk X.N X.env.scope scope own)
  (hg:∀ (s:Shared) (H:Hp) (C:Addr) (cl:List (Str × Addr)) (fp:List Addr),PG (X.blk s H scope (compEnvC scope cl C X.env) fp) tg g) (ht:∀ (s:Shared) (H:Hp) (C:Addr) (cl:List (Str × Addr)) (fp:List Addr),PTs (X.blk s H scope (compEnvC scope cl C X.env) fp) ifs tt)
  (he:∀ (s:Shared) (H:Hp) (C:Addr) (cl:List (Str × Addr)) (fp:List Addr),PE (X.blk s H scope (compEnvC scope cl C X.env) fp) elt te) (hs:∀ x,foldedSetIterable iter X.env x = pure x)
  (h:tLc wi g tt te (own.map (·.2)) σ H Q)
  (hRR:∀ D C s' m H',Inv X pins σ H' s' → Q (.ref D) H' → s'.heap.Ns C m → FpOk X pins H' C → compPost (model X.prog X.w) X.A X.xe use Qf (.ref D) C (.ok .next) s') :
  wpAny (model X.prog X.w) X.A (comprehension (.ListComp elt [⟨tg,iter,ifs,0⟩] scope pos) scope X.env pos' (newList []) false (eval iter X.env) use) Qf X.xe s:=by
 have hfree:∀ y ∈ scope.names,y.2 = .free → ∃ c,X.env.cells.lookup y.1 = some c:=fun y hy e=>by
  rcases ok.free y hy e with k | k
  ·exact I.ok.has _ (.inl k)
  ·exact I.ok.has _ (.inr k)
 refine wpAny_comprehension_free (use:=use) rfl hs (closure_ok hfree) ok.kind (fun y hy e=>by rw [ok.uniq y hy,e])
  (thn (hi pins s σ H _ I h) fun xv s1 hx=>thn hx fun itv s2 h2=>?_)
 obtain ⟨it,fp,tn,J,H2,e,I2,T,st2,f2,q⟩:=h2
 subst e
 refine wpAny_newObj_type (newEnv_comp ?_) (by show 0 ≤ sizeLine; decide)
 generalize hD:s2.heap.objs.size = D
 have hDn:H2 D = none:=I2.hok.fresh (Nat.le_of_eq hD)
 obtain ⟨W,⟨m0,w0⟩,turn⟩:=q D hDn
 generalize hs3:({ s2 with heap:=s2.heap.push { cls:=.type "list",data:=.seq ([]:List Value).toArray } }:Shared) = s3
 have I3:Inv X pins σ (upd H2 D (.lst [])) s3:=by
  rw [← hs3]
  refine I2.laid (t':=s2.toks) (fun b o e=>Heap.get?_push_of_some _ e) (Nat.le_of_eq hD) ⟨Nat.zero_le _,[],0,.nil,?_⟩
  rw [← hD]
  exact Heap.get?_push_size _ rfl
 have h3:s3.heap = s2.heap.push { cls:=.type "list",data:=.seq ([]:List Value).toArray }:=by rw [← hs3]
 have sz:∀ b ∈ fp,b < s2.heap.objs.size:=fun b hb=>by
  obtain ⟨o,e,_⟩:=T.obj _ _ st2 b hb
  exact Heap.lt_size e
 have f3:∀ b ∈ fp,FpOk X pins (upd H2 D (.lst [])) b ∧ b < s3.heap.objs.size:=fun b hb=>by
  have hlt:=sz b hb
  refine ⟨⟨?_,(f2 b hb).2⟩,by rw [h3,Heap.size_push]; exact Nat.lt_succ_of_lt hlt⟩
  rw [upd_ne (by rw [← hD]; exact Nat.ne_of_lt hlt)]
  exact (f2 b hb).1
 have st3:tn 0 s3.heap:=T.keep _ _ _ st2 fun b _ o e=>by rw [h3]; exact Heap.get?_push_of_some _ e
 have I4:=block_start I3 ok hN f3
 have pg:=hg s3 (upd H2 D (.lst [])) s3.heap.objs.size (cellsFrom (s3.heap.objs.size + 1) scope.names (cloFrom X.env.cells scope.names [])) fp
 have pt:=ht s3 (upd H2 D (.lst [])) s3.heap.objs.size (cellsFrom (s3.heap.objs.size + 1) scope.names (cloFrom X.env.cells scope.names [])) fp
 have pe:=he s3 (upd H2 D (.lst [])) s3.heap.objs.size (cellsFrom (s3.heap.objs.size + 1) scope.names (cloFrom X.env.cells scope.names [])) fp
 show codeAny _ _ (.compStart (.ListComp elt [⟨tg,iter,ifs,0⟩] scope pos) 0 (.ref it) (.ref D) (compEnvC scope (cellsFrom (s3.heap.objs.size + 1) scope.names (cloFrom X.env.cells scope.names [])) s3.heap.objs.size X.env)) (compPost (model X.prog X.w) X.A X.xe use Qf (.ref D) s3.heap.objs.size) { s3 with heap:=pushCells (s3.heap.push { cls:=.type "dict",data:=.dict #[] }) scope.names }
 have nfp:∀ b ∈ fp,(upd H2 D (.lst [])) b = none:=fun b hb=>(f3 b hb).1.1
 generalize hce:compEnvC scope (cellsFrom (s3.heap.objs.size + 1) scope.names (cloFrom X.env.cells scope.names [])) s3.heap.objs.size X.env = ce at I4 pg pt pe ⊢
 have cL:ce.locals = s3.heap.objs.size:=by subst hce; rfl
 generalize hH3:upd H2 D (.lst []) = H3 at I3 I4 pg pt pe w0 nfp f3
 generalize hs4:({ s3 with heap:=pushCells (s3.heap.push { cls:=.type "dict",data:=.dict #[] }) scope.names }:Shared) = s4 at I4 ⊢
 have st4:tn 0 s4.heap:=T.keep _ _ _ st3 fun b _ o e=>by rw [← hs4]; exact pushCells_keeps _ _ _ _ (Heap.get?_push_of_some _ e)
 have stat:∀ {σ':St} {H':Hp} {s':Shared},Inv (X.blk s3 H3 scope ce fp) [] σ' H' s' → (∀ b ∈ fp,H' b = none) → ∀ b ∈ fp,FpOk (X.blk s3 H3 scope ce fp) [] H' b:=fun {σ' H' s'} I' hn b hb =>
  ⟨hn b hb,(I'.ok.exf b hb).1,I'.ok.exfs b hb,.inl hb,fun x c e=>(I'.ok.exf b hb).2 x c e,fun p hp=>absurd (show p ∈ ([]:List (Addr × Obj)) ++ [] from hp) (by simp)⟩
 have loop:codeAny (model X.prog X.w) X.A (.compLoop (.ListComp elt [⟨tg,iter,ifs,0⟩] scope pos) 0 (.ref it) (.ref D) ce) (compPost (model X.prog X.w) X.A X.xe use Qf (.ref D) s3.heap.objs.size) s4:=by
  refine compLoop_any (fun n s'=>∃ i H',Inv (X.blk s3 H3 scope ce fp) [] (wipe σ (own.map (·.2))) H' s' ∧ tn i s'.heap ∧ (∀ b ∈ fp,H' b = none) ∧ W i n H') ?_ m0 ⟨0,H3,I4,st4,nfp,w0⟩
  rintro n s5 ⟨i,H5,I5,st5,n5,w5⟩
  rcases turn i n H5 w5 with ⟨stop,qq⟩ | ⟨go,Nx,hNx,step⟩
  ·have td:=T.done (X.blk s3 H3 scope ce fp) rfl rfl rfl hc i [] s5 _ H5 (fun _ _=>False) I5 (stat I5 n5) st5 stop
   refine thnF td fun r s6 ⟨hr,I6⟩=>?_
   subst hr
   have I7:Inv X pins σ H5 s6:=I3.call' (ch:=fp) I6.os I6.base I6.hok I6.bare fun b hb=>⟨(f3 b hb).1.2.2.2.1,(f3 b hb).1.2.1,(f3 b hb).1.2.2.2.2.1,(f3 b hb).1.2.2.2.2.2⟩
   have nC:H5 s3.heap.objs.size = none:=by
    have z:H5 ce.locals = none:=I6.free
    rw [cL] at z
    exact z
   obtain ⟨m,hn,_⟩:=I6.loc
   have hn:s6.heap.Ns ce.locals m:=hn
   rw [cL] at hn
   exact hRR D s3.heap.objs.size s6 m H5 I7 qq hn (I3.fpOk (Nat.le_refl _) nC)
  ·have ti:=T.item (X.blk s3 H3 scope ce fp) rfl rfl rfl hc i [] s5 _ H5 (fun _ _=>False) I5 (stat I5 n5) st5 go
   refine thnF ti fun r s6 ⟨u,hr,h6⟩=>?_
   subst hr
   refine thnF h6 fun _ s7 ⟨x,H7,I7,r7,y7,st7,n7⟩=>?_
   have I7':=I7.pinned (stat I7 n7) (T.obj _ _ st7)
   refine thnF (pg _ s7 _ H7 x u _ I7' r7 (step x H7 y7)) fun _ s8 ⟨σ8,H8,I8,hw8,q8⟩=>?_
   refine thnF (pt _ s8 σ8 H8 _ I8 q8) fun b s9 ⟨H9,I9,q9⟩=>?_
   have fin:∀ {s':Shared} {H':Hp},Inv (X.blk s3 H3 scope ce fp) ([] ++ pinsAt fp s7.heap) σ8 H' s' → Nx H' → ∃ m,m < n ∧ ∃ i H',Inv (X.blk s3 H3 scope ce fp) [] (wipe σ (own.map (·.2))) H' s' ∧ tn i s'.heap ∧ (∀ b ∈ fp,H' b = none) ∧ W i m H':=fun {s' H'} I' nx=>by
    obtain ⟨m',hm,w'⟩:=hNx H' nx
    have pin':∀ b ∈ fp,∀ o,s7.heap.get? b = some o → s'.heap.get? b = some o ∧ H' b = none:=fun b hb o e =>
     let z:=I'.pin (b,o) (List.mem_append_right _ (List.mem_append_right _ (mem_pinsAt hb e)))
     ⟨z.1,z.2.1⟩
    have hl:(wipe σ (own.map (·.2))).length = σ8.length:=by rw [← hw8,wipe_length]
    refine ⟨m',hm,i + 1,H',(I'.unpinned (pins:=[])).weak hl (fun j v e=>?_),T.keep _ _ _ st7 fun b hb o e=>(pin' b hb o e).1,fun b hb=>?_,w'⟩
    ·rw [← hw8] at e
     exact (wipe_some e).1
    ·obtain ⟨o,e,_⟩:=T.obj _ _ st7 b hb
     exact (pin' b hb o e).2
   cases b with
   | false =>
    simp only [Bool.false_eq_true,if_false] at q9 ⊢
    exact fin I9 q9
   | true =>
    simp only [if_true] at q9 ⊢
    refine thnF (pe _ s9 σ8 H9 _ I9 q9) fun z s10 ⟨yv,H10,I10,r10,acc,hD10,hz10,nx⟩=>?_
    exact app_ok (X:=X.blk s3 H3 scope ce fp) I10 hD10 hz10 r10 fun s11 I11=>fin I11 nx
 exact codeAny_compStart_list loop (T.self X.A 0 _ _ _ st4 loop)
theorem pe_lc {elt tg iter:Expr} {ifs:List Expr} {scope:Scope} {own:List (Str × Nat)} {pos:Pos} {wi:TI} {g:TG} {tt:TT} {te:TE} (hc:X.calm = true) (hN:X.N.Nodup) (hi:PI X tg iter wi) (ok:BlkOk X.N X.env.scope scope own)
  (hg:∀ (s:Shared) (H:Hp) (C:Addr) (cl:List (Str × Addr)) (fp:List Addr),PG (X.blk s H scope (compEnvC scope cl C X.env) fp) tg g) (ht:∀ (s:Shared) (H:Hp) (C:Addr) (cl:List (Str × Addr)) (fp:List Addr),PTs (X.blk s H scope (compEnvC scope cl C X.env) fp) ifs tt)
  (he:∀ (s:Shared) (H:Hp) (C:Addr) (cl:List (Str × Addr)) (fp:List Addr),PE (X.blk s H scope (compEnvC scope cl C X.env) fp) elt te) (hs:∀ x,foldedSetIterable iter X.env x = pure x:=by intro _; rfl) :
  PE X (.ListComp elt [⟨tg,iter,ifs,0⟩] scope pos) (tLc wi g tt te (own.map (·.2))):=by
 intro pins s σ H Q I h
 rw [eval_ListComp]
 refine lc_core hc hN I hi ok hg ht he hs h fun D C s' m H' I' q hn f=>⟨m,hn,fun h'' sb=>?_⟩
 obtain ⟨f0,f1,f2,f3,f4,f5⟩:=f
 exact ⟨.ref D,H',I'.turned (t':=s'.toks) (fun b o hb e=>(sb.2 b hb).trans e) f0 f1 f3 f4 f5,rfl,q⟩
theorem ps_setLc {i:Nat} {y:Str} {py:Pos} {elt tg iter:Expr} {ifs:List Expr} {scope:Scope} {own:List (Str × Nat)} {pos spos:Pos} {wi:TI} {g:TG} {tt:TT} {te:TE} (hc:X.calm = true) (hN:X.N.Nodup) (hy:X.N[i]? = some y) (hyl:X.env.scope.names.lookup y = some .local)
  (hsw:swapsWith (.ListComp elt [⟨tg,iter,ifs,0⟩] scope pos) (some (.Name y py)) spos.line X.env = pure true) (hi:PI X tg iter wi) (ok:BlkOk X.N X.env.scope scope own)
  (hg:∀ (s:Shared) (H:Hp) (C:Addr) (cl:List (Str × Addr)) (fp:List Addr),PG (X.blk s H scope (compEnvC scope cl C X.env) fp) tg g) (ht:∀ (s:Shared) (H:Hp) (C:Addr) (cl:List (Str × Addr)) (fp:List Addr),PTs (X.blk s H scope (compEnvC scope cl C X.env) fp) ifs tt)
  (he:∀ (s:Shared) (H:Hp) (C:Addr) (cl:List (Str × Addr)) (fp:List Addr),PE (X.blk s H scope (compEnvC scope cl C X.env) fp) elt te) (hs:∀ x,foldedSetIterable iter X.env x = pure x:=by intro _; rfl) :
  PS X (.Assign [.Name y py] (.ListComp elt [⟨tg,iter,ifs,0⟩] scope pos) spos) (tAsg (tLc wi g tt te (own.map (·.2))) (gName i)):=by
 intro pins s σ H D I h
 rw [exec_Assign_Name_used _ _ _ _ hsw]
 refine wpAny_bind (wpAny_standAt (wpAny_bind ?_))
 show wpAny _ X.A (do let _ ← comprehension (.ListComp elt [⟨tg,iter,ifs,0⟩] scope pos) scope X.env (firstIterPos [⟨tg,iter,ifs,0⟩] pos) (newList []) false (eval iter X.env) (some (assign (.Name y py) X.env))) _ _ s
 have h:tLc wi g tt te (own.map (·.2)) σ H (fun x H1=>gName i x σ H1 D.nx):=h
 refine wpAny_bind (thn (lc_core (Qf:=fun _ s'=>SP X pins D .next s') hc hN I hi ok hg ht he hs h fun L C s' m H' I' q hn f=>?_) fun _ s' hq=>wpAny_pure (wpAny_pure hq))
 show wpAny _ _ (assign (.Name y py) X.env (.ref L)) _ _ _
 refine wpAny_assign_Name (store_ok2 (v:=V.ref L) I' hN hy (.inl hyl) rfl (fun s2 I2 ⟨a,sb,ha⟩=>?_) (.inr hyl))
 obtain ⟨f0,f1,f2,f3,f4,f5⟩:=f
 have haC:C ≠ a:=by
  rcases ha with z | z
  ·rw [z]; exact f1
  ·exact fun e=>f4 y a z e.symm
 refine ⟨m,hn.sameBut sb haC,fun h3 sb3=>?_⟩
 exact ⟨_,H',I2.turned (t':=s2.toks) (fun b o hb e=>(sb3.2 b hb).trans e) f0 f1 f3 f4 f5,q⟩
theorem sw_true {elt:Expr} {gs:List Comprehension} {scope:Scope} {pos py:Pos} {y:Str} {l:Nat} {env:Env} (hk:env.scope.kind = .function) (hy:env.scope.names.lookup y = some .local) (hl:(py.line == pos.line) = true)
  (ha:(scope.names.any fun (n,k)=>n == y && (k == .local || k == .cell)) = false):swapsWith (.ListComp elt gs scope pos) (some (.Name y py)) l env = pure true:=by
 have ky:env.kindOf y = some .local:=hy
 have hb:env.blockKind = .function:=by unfold Env.blockKind; rw [hk]; rfl
 unfold swapsWith
 simp only [hb,ky,ha,Expr.pos,hl]
 rfl
end
theorem lc_range {lo:Int} {n:Nat} {g:TG} {tt:TT} {te:TE} {vs:List Nat} {σ:St} {H1:Hp} {D:Addr} {Qd:Hp → Prop} (Pv:Nat → Hp → Prop) (h0:Pv 0 (upd H1 D (.lst [])))
  (hs:∀ i H,i < n → Pv i H → g (.int (lo + i)) (wipe σ vs) H fun σ2 H2=>wipe σ2 vs = wipe σ vs ∧ tt σ2 H2 fun b H3 =>
   if b = true then te σ2 H3 fun y H4=>∃ acc,H4 D = some (.lst acc) ∧ acc.length < sizeLine ∧ Pv (i + 1) (upd H4 D (.lst (acc ++ [y]))) else Pv (i + 1) H3) (hd:∀ H,Pv n H → Qd H) :
  ∃ W:Nat → Nat → Hp → Prop,(∃ m,W 0 m (upd H1 D (.lst []))) ∧ ∀ i m H,W i m H →
   ((Itr lo n).stop i H ∧ Qd H) ∨ ((Itr lo n).go i H ∧ ∃ Nx:Hp → Prop,(∀ H',Nx H' → ∃ m',m' < m ∧ W (i + 1) m' H') ∧ ∀ x H',(Itr lo n).yld i H x H' → g x (wipe σ vs) H' fun σ2 H2=>wipe σ2 vs = wipe σ vs ∧ tt σ2 H2 fun b H3 =>
    if b = true then te σ2 H3 fun y H4=>∃ acc,H4 D = some (.lst acc) ∧ acc.length < sizeLine ∧ Nx (upd H4 D (.lst (acc ++ [y]))) else Nx H3):=by
 refine ⟨fun i m H=>m = n - i ∧ i ≤ n ∧ Pv i H,⟨n,by simp,Nat.zero_le _,h0⟩,?_⟩
 rintro i m H ⟨rfl,hi,p⟩
 by_cases hlt:i < n
 ·refine .inr ⟨hlt,Pv (i + 1),fun H' p'=>⟨n - (i + 1),by omega,rfl,hlt,p'⟩,fun x H' y=>?_⟩
  obtain ⟨e,y⟩:=y
  subst e y
  exact hs i _ hlt p
 ·have e:i = n:=by omega
  subst e
  exact .inl ⟨Nat.le_refl _,hd H p⟩
theorem lc_list {K:PySem.W.Frag} {a:Addr} {xs:List V} {g:TG} {tt:TT} {te:TE} {vs:List Nat} {σ:St} {H1:Hp} {D:Addr} {Qd:Hp → Prop} (Pv:Nat → Hp → Prop) (h0:Pv 0 (upd H1 D (.lst []))) (hl:∀ i H,i ≤ xs.length → Pv i H → SqL K H a xs)
  (hs:∀ i x H,xs[i]? = some x → Pv i H → g x (wipe σ vs) H fun σ2 H2=>wipe σ2 vs = wipe σ vs ∧ tt σ2 H2 fun b H3 =>
   if b = true then te σ2 H3 fun y H4=>∃ acc,H4 D = some (.lst acc) ∧ acc.length < sizeLine ∧ Pv (i + 1) (upd H4 D (.lst (acc ++ [y]))) else Pv (i + 1) H3) (hd:∀ H,Pv xs.length H → Qd H) :
  ∃ W:Nat → Nat → Hp → Prop,(∃ m,W 0 m (upd H1 D (.lst []))) ∧ ∀ i m H,W i m H →
   ((Itl K a).stop i H ∧ Qd H) ∨ ((Itl K a).go i H ∧ ∃ Nx:Hp → Prop,(∀ H',Nx H' → ∃ m',m' < m ∧ W (i + 1) m' H') ∧ ∀ x H',(Itl K a).yld i H x H' → g x (wipe σ vs) H' fun σ2 H2=>wipe σ2 vs = wipe σ vs ∧ tt σ2 H2 fun b H3 =>
    if b = true then te σ2 H3 fun y H4=>∃ acc,H4 D = some (.lst acc) ∧ acc.length < sizeLine ∧ Nx (upd H4 D (.lst (acc ++ [y]))) else Nx H3):=by
 refine ⟨fun i m H=>m = xs.length - i ∧ i ≤ xs.length ∧ Pv i H,⟨xs.length,by simp,Nat.zero_le _,h0⟩,?_⟩
 rintro i m H ⟨rfl,hi,p⟩
 have q:=hl i H hi p
 by_cases hlt:i < xs.length
 ·refine .inr ⟨⟨xs,xs[i],q,by simp [hlt]⟩,Pv (i + 1),fun H' p'=>⟨xs.length - (i + 1),by omega,rfl,hlt,p'⟩,fun x H' y=>?_⟩
  obtain ⟨e,y⟩:=y
  subst e
  exact hs i x _ (y xs q) p
 ·have e:i = xs.length:=by omega
  subst e
  exact .inl ⟨⟨xs,q,Nat.le_refl _⟩,hd H p⟩
end L2
namespace L2
open PySem PySem.Spec PyProof.Rows
section
variable {prog:Program} {w:World} {A:Around} {R:Result → Shared → Prop} {s:Shared} {elt t0 i0 t1 i1:Expr} {ifs0 ifs1:List Expr} {scope:Scope} {pos:Pos} {it acc:Value} {env:Env}
end
section
variable {X:Cx}
end
end L2
namespace L2
open PySem PySem.Spec PyProof.Rows
section
variable {κ:Type} [DecidableEq κ]
end
section
variable {P:Program} {w:World} {H:Hp} {h:Heap} {a:Addr}
end
section
variable {X:Cx} {pins:List (Addr × Obj)} {σ:St} {H:Hp} {s:Shared} {a:Addr} {y v:V} {u r:Value} {o:Option V} {A:Around} {E:Value → Shared → Prop}
end
section
variable {X:Cx} {pins:List (Addr × Obj)} {σ:St} {H:Hp} {s:Shared} {a:Addr} {kvs:List (Key × V)} {k:Key} {u:Value} {A:Around} {E:Value → Shared → Prop}
end
section
variable {X:Cx} {o i e value:Expr} {pos pos' tpos:Pos} {td ty tv:TE}
end
section
variable {X:Cx} {pos:Pos}
end
structure M1 (X:Cx) (o:Expr) (m:Str) (apos:Pos) (e:Expr) (cpos:Pos):Prop where
 base:attributeBase o m X.env (eval o X.env) = eval o X.env
 few:((backTo cpos (starEach [e] X.env)).all (fun x=>!x.1) && (backToKw cpos (keywordEach [] X.env)).all (fun x=>x.1.isSome)
  && decide (([e]:List Expr).length + ([]:List Keyword).length + (if ([]:List Keyword).isEmpty then 0 else 1) < 30)) = true
 line:(apos.endLine == cpos.line) = true
 trees:backTo cpos (starEach [e] X.env) = [(false,eval e X.env)]
structure M2 (X:Cx) (o:Expr) (m:Str) (apos:Pos) (e f:Expr) (cpos:Pos):Prop where
 base:attributeBase o m X.env (eval o X.env) = eval o X.env
 few:((backTo cpos (starEach [e,f] X.env)).all (fun x=>!x.1) && (backToKw cpos (keywordEach [] X.env)).all (fun x=>x.1.isSome)
  && decide (([e,f]:List Expr).length + ([]:List Keyword).length + (if ([]:List Keyword).isEmpty then 0 else 1) < 30)) = true
 line:(apos.endLine == cpos.line) = true
 trees:backTo cpos (starEach [e,f] X.env) = [(false,eval e X.env),(false,eval f X.env)]
section
variable {X:Cx} {pins:List (Addr × Obj)} {σ:St} {H:Hp} {s:Shared} {a:Addr} {y d:V} {u r:Value} {o:Option V} {A:Around} {E:Value → Shared → Prop}
end
section
variable {X:Cx} {o e f:Expr} {apos cpos:Pos} {td ty tx:TE}
end
section
variable {X:Cx} {pins:List (Addr × Obj)} {σ:St} {H:Hp} {s:Shared} {a:Addr} {kvs:List (Key × V)} {A:Around} {E:Value → Shared → Prop}
end
section
variable {X:Cx} {pins:List (Addr × Obj)} {σ:St} {H:Hp} {s:Shared} {a:Addr} {y:V} {u:Value} {A:Around} {E:Value → Shared → Prop}
end
end L2
namespace L2
open PySem PySem.Spec PyProof.Rows
section
variable {prog:Program} {w:World} {A:Around} {E:Value → Shared → Prop}
end
section
variable {X:Cx}
end
end L2
namespace L2
open PySem PySem.Spec PyProof.Rows
section
variable {X:Cx} {pins:List (Addr × Obj)} {σ:St} {H:Hp} {s:Shared} {h':Heap}
theorem Inv.turnedL {t':Nat} {ch:List Addr} (I:Inv X pins σ H s) (k:∀ b o,b ∉ ch → s.heap.get? b = some o → h'.get? b = some o) (hf:∀ b ∈ ch,FpOk X pins H b):Inv X pins σ H { s with heap:=h',toks:=t' }:=by
 have nit:∀ b u,H b = some u → b ∉ ch:=fun b u e z=>by
  have q:=(hf b z).1
  rw [q] at e; cases e
 refine I.step (g':=s.gens) (d':=s.drawn) (ch:=ch) (fun b hb=>⟨(hf b hb).2.2.2.1,(hf b hb).2.1,(hf b hb).2.2.2.2.1,(hf b hb).2.2.2.2.2⟩) (fun b o _ _ hc e _=>k b o hc e) (fun b o _ _ hc e _=>⟨o.slots,k b o hc e⟩)
  (fun _ _ _ _ n=>n) (fun b o hc e=>⟨o,k b o hc e⟩) (fun _ _ e=>e) (fun _ _ _ e=>e) (fun b ps e=>⟨#[],by rw [e]; simp⟩) (fun m hm=>?_) (fun b u e=>?_) I.bare
 ·obtain ⟨o,es,ep,ho,r⟩:=hm
  exact ⟨o,es,ep,k _ o (fun z=>(hf _ z).2.1 rfl) ho,r⟩
 ·refine (I.hok b u e).stay (fun c v hc q=>k c v ?_ q) (fun _ q=>q) fun _ _ q=>q
  rcases hc with z | z
  ·rw [z]; exact nit b u e
  ·exact nit c _ z
theorem Inv.turnedNew {t':Nat} {ch:List Addr} {T:Addr} {ob:HO} (I:Inv X pins σ H s) (k:∀ b o,b ∉ ch → s.heap.get? b = some o → h'.get? b = some o) (hf:∀ b ∈ ch,FpOk X pins H b) (hT:s.heap.objs.size ≤ T)
  (new:ObjOk X.prog X.w (upd H T ob) h' T ob):Inv X pins σ (upd H T ob) { s with heap:=h',toks:=t' }:=by
 have hn:H T = none:=I.hok.fresh hT
 have nit:∀ b u,H b = some u → b ∉ ch:=fun b u e z=>by
  have q:=(hf b z).1
  rw [q] at e; cases e
 refine I.step (g':=s.gens) (d':=s.drawn) (ch:=ch) (fun b hb=>⟨(hf b hb).2.2.2.1,(hf b hb).2.1,(hf b hb).2.2.2.2.1,(hf b hb).2.2.2.2.2⟩) (fun b o _ _ hc e _=>k b o hc e) (fun b o _ _ hc e _=>⟨o.slots,k b o hc e⟩)
  (fun b o _ e n=>?_) (fun b o hc e=>⟨o,k b o hc e⟩) (fun b xs e=>?_) (fun b o u e=>?_) (fun b ps e=>⟨#[],?_⟩) (fun m hm=>?_) (fun b u e=>?_) I.bare
 ·rw [upd_ne (Nat.ne_of_lt (Nat.lt_of_lt_of_le (Heap.lt_size e) hT))]; exact n
 ·rw [upd_ne (ne_of_none e hn)]; exact e
 ·rw [upd_ne (ne_of_none e hn)]; exact e
 ·rw [upd_ne (ne_of_none e hn),e]; simp
 ·obtain ⟨o,es,ep,ho,r⟩:=hm
  exact ⟨o,es,ep,k _ o (fun z=>(hf _ z).2.1 rfl) ho,r⟩
 ·by_cases hb:b = T
  ·subst hb
   rw [upd_same] at e
   cases e
   exact new
  ·rw [upd_ne hb] at e
   refine (I.hok b u e).stay (fun c v hc q=>k c v ?_ q) (fun c q=>by rw [upd_ne (ne_of_none q hn)]; exact q) fun c xs q=>by rw [upd_ne (ne_of_none q hn)]; exact q
   rcases hc with z | z
   ·rw [z]; exact nit b u e
   ·exact nit c _ z
end
section
variable {X:Cx}
end
section
variable {X:Cx} {tg:Expr}
end
section
variable {X:Cx} {tg:Expr}
end
section
variable {prog:Program} {w:World} {A:Around} {E:Value → Shared → Prop} {s:Shared}
end
section
variable {X:Cx} {pins:List (Addr × Obj)} {σ:St} {H:Hp} {s:Shared} {d:Addr} {o:Obj}
end
section
variable {P:Program} {w:World} {K:PySem.W.Frag} {tg:Expr} {d:Addr} {o:Obj} {es:Array DictEntry} {ep:Nat}
end
section
variable {X:Cx} {tg e:Expr} {td:TE} {apos cpos:Pos}
end
noncomputable def Ite (K:PySem.W.Frag) (a:Addr):It :=
 ⟨fun i H=>∃ (xs:List V) (x:V),SqL K H a xs ∧ xs[i]? = some x,fun i H v H'=>∃ T x,v = .ref T ∧ H T = none ∧ H' = upd H T (.tup [.int (i:Nat),x]) ∧ ∀ xs,SqL K H a xs → xs[i]? = some x,fun i H=>∃ xs:List V,SqL K H a xs ∧ xs.length ≤ i⟩
theorem turn_enum {P:Program} {w:World} {K:PySem.W.Frag} {elts:List Expr} {kk:Nat} {tpos:Pos} (a e it:Addr) :
  Turn P w K (.Tuple elts kk tpos) (Ite K a) [e,it] e (fun i h=>(∃ old,IsEnum h e it ((i:Nat):Int) old) ∧ h.IsListIter it a i ∧ e ≠ it) where
 mem:=by simp
 obj:=fun i h st b hb=>by
  obtain ⟨⟨old,he⟩,⟨o,ho,hc,hd⟩,_⟩:=st
  have e':b = e ∨ b = it:=by simpa using hb
  rcases e' with z | z
  ·rw [z]; exact ⟨_,he,fun v q=>nomatch q⟩
  ·rw [z]; exact ⟨o,ho,fun v q=>by rw [hd] at q; cases q⟩
 keep:=fun i h h' st k=>let ⟨⟨old,he⟩,hi,hne⟩:=st; ⟨⟨old,k e (by simp) _ he⟩,hi.at fun o q=>k it (by simp) o q,hne⟩
 item:=by
  intro X hP hw hK hc i pins s σ H E I hf st hg
  subst hP hw hK
  obtain ⟨⟨old,he⟩,hit,hne⟩:=st
  obtain ⟨xs,x,hq,hx⟩:=hg
  obtain ⟨its,rv,p,hz⟩:=I.list hq
  obtain ⟨u,hu,ru⟩:=rv.get hx
  have hel:e < s.heap.objs.size:=Heap.lt_size he
  have hil:it < s.heap.objs.size:=by obtain ⟨_,q,_⟩:=hit; exact Heap.lt_size q
  refine wpAny_pyNext_enum_item he hit p.isList (x:=u) (by simpa using hu) hne fun h' ho hit' hT hsz hk=>?_
  refine ⟨_,rfl,wpAny_letOwnedTupleGo_enum (s:={ s with heap:=h',toks:=s.toks + 1 }) ho fun h'' he' sb=>?_⟩
  have hT2:h''.get? s.heap.objs.size = some { cls:=.type "tuple",data:=.seq #[.int i s.toks,u] }:=(sb.2 _ (Nat.ne_of_gt hel)).trans hT
  have new:ObjOk X.prog X.w (upd H s.heap.objs.size (.tup [.int (i:Nat),x])) h'' s.heap.objs.size (.tup [.int (i:Nat),x]) :=
   ⟨by show 2 ≤ sizeLine; decide,[.int i s.toks,u],.cons ⟨_,rfl⟩ (.cons ru .nil),⟨_,hT2,rfl,_,rfl⟩⟩
  have I1:Inv X pins σ (upd H s.heap.objs.size (.tup [.int (i:Nat),x])) { s with heap:=h'',toks:=s.toks + 1 } :=
   I.turnedNew (ch:=[e,it]) (fun b ob hb q=>(sb.2 b (fun z=>hb (by simp [z]))).trans (hk b ob (fun z=>hb (by simp [z])) (fun z=>hb (by simp [z])) q)) hf (Nat.le_refl _) new
  refine ⟨.ref s.heap.objs.size,_,I1,rfl,⟨_,x,rfl,I.hok.fresh (Nat.le_refl _),rfl,fun ys hy=>by rw [I.list_inj hy hq]; exact hx⟩,⟨⟨u,?_⟩,hit'.at fun o q=>(sb.2 it (Ne.symm hne)).trans q,hne⟩,fun b hb=>?_⟩
  ·have e1:((i + 1:Nat):Int) = (i:Int) + 1:=by omega
   rw [e1]; exact he'
  ·have hb':b < s.heap.objs.size:=by
    have e':b = e ∨ b = it:=by simpa using hb
    rcases e' with z | z
    ·rw [z]; exact hel
    ·rw [z]; exact hil
   rw [upd_ne (Nat.ne_of_lt hb')]
   exact (hf b hb).1
 done:=by
  intro X hP hw hK hc i pins s σ H E I hf st hg
  subst hP hw hK
  obtain ⟨⟨old,he⟩,hit,hne⟩:=st
  obtain ⟨xs,hq,hx⟩:=hg
  obtain ⟨its,rv,p,hz⟩:=I.list hq
  obtain ⟨f0,f1,f2,f3,f4,f5⟩:=hf it (by simp)
  have hl:=rv.length
  exact wpAny_pyNext_enum_end (I.ok.hd hc) he hit p.isList (by simp; omega) fun h' eb=>⟨rfl,I.turned (t':=s.toks) (fun b o hb q=>eb b o hb q) f0 f1 f3 f4 f5⟩
 self:=fun A i s Q E st h=>let ⟨⟨_,he⟩,_⟩:=st; wpAny_pyIter_enum he h
noncomputable def iEnum (K:PySem.W.Frag) (ta:TA):TI:=fun σ H R=>ta σ H fun vs H1=>∃ a xs,vs = [.ref a] ∧ SqL K H1 a xs ∧ R (Ite K a) H1
theorem pi_enum {X:Cx} {e:Expr} {ta:TA} {p pos tpos:Pos} {elts:List Expr} {kk:Nat} (hg:Gl X "enumerate") (hm:X.mg "enumerate" = none) (ha:PA X [e] ta) (hs:starEach [e] X.env = [(false,eval e X.env)]:=by rfl) :
  PI X (.Tuple elts kk tpos) (.Call (.Name "enumerate" p) [e] [] pos) (iEnum X.K ta):=by
 intro pins s σ H R I h
 refine Call_ (ld_blt I hg hm boot_enumerate (PyProof.Rows.callWith_type1 (thn (ha pos pins s σ H _ I h) fun us s1 ⟨vs,H1,I1,r1,q1⟩=>?_) hs rfl))
 obtain ⟨a,xs,ex,hq,q⟩:=q1
 subst ex
 cases r1 with
 | cons r rr =>
  cases rr
  cases r
  obtain ⟨its,rv,p',hz⟩:=I1.list hq
  refine call_enumerate_list p'.isList fun h' he hit hsz hk=>wpAny_pyIter_enum he ?_
  have I2:Inv X pins σ H1 { s1 with heap:=h' }:=I1.kept (t':=s1.toks) hk
  refine ⟨s1.heap.objs.size + 1,[s1.heap.objs.size + 1,s1.heap.objs.size],_,_,H1,rfl,I2,turn_enum a (s1.heap.objs.size + 1) s1.heap.objs.size,⟨⟨.none,he⟩,hit,Nat.succ_ne_self _⟩,fun b hb=>?_,q⟩
  have e':b = s1.heap.objs.size + 1 ∨ b = s1.heap.objs.size:=by simpa using hb
  have hle:s1.heap.objs.size ≤ b:=by
   rcases e' with z | z
   ·rw [z]; exact Nat.le_add_right _ _
   ·rw [z]; exact Nat.le_refl _
  exact I1.fpOk hle (I1.hok.fresh hle)
theorem boot_zip5:bootBuiltins "zip" = some (.type "zip"):=by decide +kernel
noncomputable def Itz (K:PySem.W.Frag) (a b:Addr):It :=
 ⟨fun i H=>∃ (xs ys:List V) (x y:V),SqL K H a xs ∧ SqL K H b ys ∧ xs[i]? = some x ∧ ys[i]? = some y,
  fun i H v H'=>∃ T x y,v = .ref T ∧ H T = none ∧ H' = upd H T (.tup [x,y]) ∧ (∀ xs,SqL K H a xs → xs[i]? = some x) ∧ ∀ ys,SqL K H b ys → ys[i]? = some y,
  fun i H=>∃ xs ys:List V,SqL K H a xs ∧ SqL K H b ys ∧ (xs.length ≤ i ∨ ys.length ≤ i)⟩
theorem turn_zip {P:Program} {w:World} {K:PySem.W.Frag} {elts:List Expr} {kk:Nat} {tpos:Pos} {a b z TI TO i1 i2:Addr} (D:ZipApart z TI TO i1 i2 a b) :
  Turn P w K (.Tuple elts kk tpos) (Itz K a b) [z,TI,TO,i1,i2] z (fun i h=>IsZip h z TI TO .none ∧ IsPair h TI (.ref i1) (.ref i2) ∧ (∃ x y,IsPair h TO x y) ∧ h.IsListIter i1 a i ∧ h.IsListIter i2 b i) where
 mem:=by simp
 obj:=fun i h st c hc=>by
  obtain ⟨hz,hTI,⟨x,y,hTO⟩,⟨o1,e1,_,d1⟩,⟨o2,e2,_,d2⟩⟩:=st
  have e':c = z ∨ c = TI ∨ c = TO ∨ c = i1 ∨ c = i2:=by simpa using hc
  rcases e' with q | q | q | q | q
  ·rw [q]; exact ⟨_,hz,fun v q=>nomatch q⟩
  ·rw [q]; exact ⟨_,hTI,fun v q=>nomatch q⟩
  ·rw [q]; exact ⟨_,hTO,fun v q=>nomatch q⟩
  ·rw [q]; exact ⟨o1,e1,fun v q=>by rw [d1] at q; cases q⟩
  ·rw [q]; exact ⟨o2,e2,fun v q=>by rw [d2] at q; cases q⟩
 keep:=fun i h h' st k=>by
  obtain ⟨hz,hTI,⟨x,y,hTO⟩,h1,h2⟩:=st
  exact ⟨k z (by simp) _ hz,k TI (by simp) _ hTI,⟨x,y,k TO (by simp) _ hTO⟩,h1.at fun o q=>k i1 (by simp) o q,h2.at fun o q=>k i2 (by simp) o q⟩
 item:=by
  intro X hP hw hK hc i pins s σ H E I hf st hg
  subst hP hw hK
  obtain ⟨hz,hTI,⟨x0,y0,hTO⟩,h1,h2⟩:=st
  obtain ⟨xs,ys,x,y,hqx,hqy,hx,hy⟩:=hg
  obtain ⟨its,rv,p,_⟩:=I.list hqx
  obtain ⟨its2,rv2,p2,_⟩:=I.list hqy
  obtain ⟨u,hu,ru⟩:=rv.get hx
  obtain ⟨u2,hu2,ru2⟩:=rv2.get hy
  have hzl:z < s.heap.objs.size:=Heap.lt_size hz
  refine wpAny_pyNext_zip_item D hz hTI hTO h1 h2 p.isList p2.isList (x:=u) (y:=u2) (by simpa using hu) (by simpa using hu2) fun h' z' TO' h1' h2' hT hsz hk=>?_
  refine ⟨_,rfl,wpAny_letOwnedTupleGo_zip (s:={ s with heap:=h' }) z' fun h'' z'' sb=>?_⟩
  have hT2:h''.get? s.heap.objs.size = some { cls:=.type "tuple",data:=.seq #[u,u2] }:=(sb.2 _ (Nat.ne_of_gt hzl)).trans hT
  have new:ObjOk X.prog X.w (upd H s.heap.objs.size (.tup [x,y])) h'' s.heap.objs.size (.tup [x,y]) :=
   ⟨by show 2 ≤ sizeLine; decide,[u,u2],.cons ru (.cons ru2 .nil),⟨_,hT2,rfl,_,rfl⟩⟩
  have I1:Inv X pins σ (upd H s.heap.objs.size (.tup [x,y])) { s with heap:=h'' } :=
   I.turnedNew (t':=s.toks) (ch:=[z,TI,TO,i1,i2]) (fun c o hb q=>(sb.2 c (fun q'=>hb (by simp [q']))).trans (hk c o (fun q'=>hb (by simp [q'])) (fun q'=>hb (by simp [q'])) (fun q'=>hb (by simp [q'])) (fun q'=>hb (by simp [q'])) q)) hf (Nat.le_refl _) new
  refine ⟨.ref s.heap.objs.size,_,I1,rfl,⟨_,x,y,rfl,I.hok.fresh (Nat.le_refl _),rfl,fun l hl=>by rw [I.list_inj hl hqx]; exact hx,fun l hl=>by rw [I.list_inj hl hqy]; exact hy⟩,⟨z'',?_,⟨u,u2,?_⟩,?_,?_⟩,fun c hcm=>?_⟩
  ·exact (sb.2 _ D.TIz).trans (hk _ _ D.TIz D.TITO D.TIi1 D.TIi2 hTI)
  ·exact (sb.2 _ D.TOz).trans TO'
  ·exact h1'.at fun o q=>(sb.2 _ D.i1z).trans q
  ·exact h2'.at fun o q=>(sb.2 _ D.i2z).trans q
  ·have hlt:c < s.heap.objs.size:=by
    have e':c = z ∨ c = TI ∨ c = TO ∨ c = i1 ∨ c = i2:=by simpa using hcm
    rcases e' with q | q | q | q | q
    ·rw [q]; exact hzl
    ·rw [q]; exact Heap.lt_size hTI
    ·rw [q]; exact Heap.lt_size hTO
    ·rw [q]; obtain ⟨_,e1,_⟩:=h1; exact Heap.lt_size e1
    ·rw [q]; obtain ⟨_,e2,_⟩:=h2; exact Heap.lt_size e2
   rw [upd_ne (Nat.ne_of_lt hlt)]
   exact (hf c hcm).1
 done:=by
  intro X hP hw hK hc i pins s σ H E I hf st hg
  subst hP hw hK
  obtain ⟨hz,hTI,⟨x0,y0,hTO⟩,h1,h2⟩:=st
  obtain ⟨xs,ys,hqx,hqy,hend⟩:=hg
  obtain ⟨its,rv,p,_⟩:=I.list hqx
  obtain ⟨its2,rv2,p2,_⟩:=I.list hqy
  have l1:=rv.length
  have l2:=rv2.length
  have he:its.toArray[i]? = none ∨ its2.toArray[i]? = none:=by
   rcases hend with q | q
   ·exact .inl (by simp; omega)
   ·exact .inr (by simp; omega)
  exact wpAny_pyNext_zip_end (I.ok.hd hc) D hz hTI hTO h1 h2 p.isList p2.isList he fun h' hk=>⟨rfl,I.turnedL (t':=s.toks) (ch:=[z,TI,TO,i1,i2]) (fun c o hb q =>
   hk c o (fun q'=>hb (by simp [q'])) (fun q'=>hb (by simp [q'])) (fun q'=>hb (by simp [q'])) (fun q'=>hb (by simp [q'])) q) hf⟩
 self:=fun A i s Q E st h=>wpAny_pyIter_zip st.1 h
noncomputable def iZip (K:PySem.W.Frag) (ta:TA):TI:=fun σ H R=>ta σ H fun vs H1=>∃ a b xs ys,vs = [.ref a,.ref b] ∧ SqL K H1 a xs ∧ SqL K H1 b ys ∧ R (Itz K a b) H1
theorem pi_zip {X:Cx} {e e2:Expr} {ta:TA} {p pos tpos:Pos} {elts:List Expr} {kk:Nat} (hg:Gl X "zip") (hm:X.mg "zip" = none) (ha:PA X [e,e2] ta)
  (hs:starEach [e,e2] X.env = (false,eval e X.env) :: starEach [e2] X.env:=by rfl) (hpl:(backTo pos (starEach [e2] X.env)).any (·.1) = false:=by rfl) :
  PI X (.Tuple elts kk tpos) (.Call (.Name "zip" p) [e,e2] [] pos) (iZip X.K ta):=by
 intro pins s σ H R I h
 refine Call_ (ld_blt I hg hm boot_zip5 (PyProof.Rows.callWith_type1 (thn (ha pos pins s σ H _ I h) fun us s1 ⟨vs,H1,I1,r1,q1⟩=>?_) hs hpl))
 obtain ⟨a,b,xs,ys,ex,hqx,hqy,q⟩:=q1
 subst ex
 cases r1 with
 | cons r rr =>
  cases rr with
  | cons r' rr =>
   cases rr
   cases r
   cases r'
   obtain ⟨its,rv,p1,_⟩:=I1.list hqx
   obtain ⟨its2,rv2,p2,_⟩:=I1.list hqy
   have la:a < s1.heap.objs.size:=p1.lt
   have lb:b < s1.heap.objs.size:=p2.lt
   refine call_zip_2 p1.isList p2.isList fun h' hz hTI hTO h1 h2 hsz hk=>wpAny_pyIter_zip hz ?_
   have I2:Inv X pins σ H1 { s1 with heap:=h' }:=I1.kept (t':=s1.toks) hk
   refine ⟨s1.heap.objs.size + 4,[s1.heap.objs.size + 4,s1.heap.objs.size + 2,s1.heap.objs.size + 3,s1.heap.objs.size,s1.heap.objs.size + 1],_,_,H1,rfl,I2,turn_zip (PySem.W.ktu_apart s1.heap.objs.size a b la lb),⟨hz,hTI,⟨_,_,hTO⟩,h1,h2⟩,fun c hcm=>?_,q⟩
   have e':c = s1.heap.objs.size + 4 ∨ c = s1.heap.objs.size + 2 ∨ c = s1.heap.objs.size + 3 ∨ c = s1.heap.objs.size ∨ c = s1.heap.objs.size + 1:=by simpa using hcm
   have hle:s1.heap.objs.size ≤ c:=by
    rcases e' with z | z | z | z | z
    ·rw [z]; exact Nat.le_add_right _ _
    ·rw [z]; exact Nat.le_add_right _ _
    ·rw [z]; exact Nat.le_add_right _ _
    ·rw [z]; exact Nat.le_refl _
    ·rw [z]; exact Nat.le_add_right _ _
   exact I1.fpOk hle (I1.hok.fresh hle)
end L2
section 
namespace Bits
open PySem PyProof.Rows
end Bits
end 
section 
namespace TL
open PySem PySem.Builtin PySem.Builtin.Str PySem.StrLaws
noncomputable abbrev tl (x:Str):List Nat:=x.cps.toList
noncomputable def pre (S l:List Nat):Bool:=l.take S.length == S
noncomputable def par (S:List Nat):List Nat → List Nat → Option (List Nat × List Nat)
 | _,[]=>none
 | acc,c :: r=>if pre S (c :: r) = true then some (acc,(c :: r).drop S.length) else par S (acc ++ [c]) r
end TL
end 
namespace L2
open PySem PySem.Spec PyProof.Rows
section
variable {X:Cx} {pins:List (Addr × Obj)} {σ:St} {H:Hp} {s:Shared} {Q:VK}
end
section
variable {X:Cx}
end
section
variable {X:Cx} {o e:Expr} {to te:TE}
end
end L2
namespace L2
open PySem PySem.Spec PyProof.Rows
section
variable {X:Cx}
end
end L2
namespace Att
open PySem PySem.W PySem.Calls PyProof.Rows
section
variable {prog:Program} {w:World} {A:Around} {E:Value → Shared → Prop} {s:Shared} {K:Frag}
end
end Att
namespace L2
open PySem PySem.Spec PyProof.Rows
theorem vals_ints:∀ {vs:List Value} {ns:List Int},IntsAre vs ns → Vals (ns.map V.int) vs
 | _,_,.nil=>.nil
 | _,_,.cons n t h=>.cons ⟨t,rfl⟩ (vals_ints h)
noncomputable def Only (H:Hp):Prop:=∀ b,H b = none ∨ ∃ o xs,H b = some (.frz o (.lst xs))
theorem law_call {P:Program} {w:World} {K:PySem.W.Frag} {mg mb:Str → Option Value} {CX:CXT} {k:Nat} {fa a:Addr} {fd:FuncData} {x:Str} {sp:Sp} {s₁:Shared} {vs:List Value} {ns:List Int}
  (KX:K.In s₁.heap) (hns:s₁.heap.Ns mainGlobals mg) (hb:s₁.heap.Ns builtinsNs mb) (hbb:∀ x:Str,x ≠ "__name__" → mb x = bootBuiltins x) (hlim:s₁.heap.NoLimit) (hg:s₁.gens = #[])
  (ha:s₁.heap.get? a = some { cls:=.type "list",data:=.seq vs.toArray }) (hi:IntsAre vs ns) (hl:ns.length ≤ sizeLine) (hr:Room k callerA)
  (F:∀ base:Heap,K.In base → base.Ns mainGlobals mg → FnOk P w K mg base CX k fa fd [x] sp) (hbind:∀ (s:Shared) (u:Value),BindsTo s fd ⟨[u],[]⟩ [(x,u)])
  (hsp:∀ H:Hp,Only H → SqL K H a (ns.map V.int) → sp [.ref a] H (fun v _=>v = .bl true) fun _ _ _=>False)
  (hCX:∀ H e s',CX [] H s₁ (fun _ _ _=>False) e s' → False) :
  codeAny (model P w) callerA (.call (.ref fa) ⟨[.ref a],[]⟩) (fun r s'=>r = .ok (.ret (.bool true)) ∧ OldK s₁.heap s'.heap ∧ s'.os = s₁.os ∧ AllBare s'.gens) s₁:=by
 have rv:=vals_ints hi
 have lenV:=hi.length
 have core:∀ H:Hp,Only H → SqL K H a (ns.map V.int) → HOk P w H s₁.heap → (∀ b,H b ≠ none → b = a) → (H a ≠ none → K.lookup a = none) →
   codeAny (model P w) callerA (.call (.ref fa) ⟨[.ref a],[]⟩) (fun r s'=>r = .ok (.ret (.bool true)) ∧ OldK s₁.heap s'.heap ∧ s'.os = s₁.os ∧ AllBare s'.gens) s₁:=by
  intro H hO hS hok hA hK
  have base_of:∀ {b:Addr} {o:Obj},s₁.heap.get? b = some o → H b = none → (hidT s₁.heap H).get? b = some o:=fun e n=>hidT_get e n
  have noA:∀ {b:Addr} {o:Obj} {es:Array DictEntry} {ep:Nat},s₁.heap.get? b = some o → o.data = .dict es ep → H b = none:=fun {b o es ep} e d=>by
   cases q:H b with
   | none=>rfl
   | some u =>
    have e':b = a:=hA b (by rw [q]; simp)
    subst e'
    rw [ha] at e; cases e
    have d':Data.seq vs.toArray _ = Data.dict es ep:=d
    cases d'
  have nsK:∀ {b:Addr} {m:Str → Option Value},s₁.heap.Ns b m → (hidT s₁.heap H).Ns b m:=fun {b m} ⟨o,es,ep,e,d,r⟩=>⟨o,es,ep,base_of e (noA e d),d,r⟩
  have hKb:K.In (hidT s₁.heap H):=fun b o e=>base_of (KX b o e) (by
   cases q:H b with
   | none=>rfl
   | some u =>
    have e':b = a:=hA b (by rw [q]; simp)
    subst e'
    rw [hK (by rw [q]; simp)] at e; cases e)
  have hM:Mod K mg (hidT s₁.heap H):=⟨hKb,nsK hns,⟨mb,nsK hb,hbb⟩,let ⟨mc,h1,h2⟩:=hlim; ⟨mc,nsK h1,h2⟩⟩
  have e0:Env0 P w K mg (hidT s₁.heap H) callerA [] s₁ H:=⟨rfl,hM,fun b o e=>of_hidT e,Nat.le_of_eq (hidT_size _ _),trivial,fun b hb=>absurd (show b ∈ ([]:List Addr) from hb) (by simp),hok,.of_eq hg⟩
  refine codeAny_mono ((F _ hKb (nsK hns)).run callerA [] s₁ H ⟨[.ref a],[]⟩ [.ref a] [.ref a] _ _ hr e0 (hbind s₁ (.ref a)) (.cons rfl .nil) (hsp H hO hS)) fun r s' h=>?_
  cases r with
  | error e=>exact (hCX H e s' h).elim
  | ok fl =>
   cases fl with
   | next=>exact False.elim h
   | brk=>exact False.elim h
   | cont=>exact False.elim h
   | ret u =>
    obtain ⟨v,H',os,bare,un,hok',r',q⟩:=h
    have q':v = .bl true:=q
    subst q'
    obtain rfl:u = Value.bool true:=r'
    refine ⟨rfl,OldK.of_keep fun b o e=>?_,os,bare⟩
    cases q:H b with
    | none=>exact un.keep b o e q (by intro z; exact absurd (show b ∈ ([]:List Addr) from z) (by simp)) (by simp)
    | some u =>
     rcases hO b with z | ⟨ob,xs,z⟩
     ·rw [q] at z; cases z
     ·have z2:=un.frzs b ob _ z
      obtain ⟨e1,_⟩:=hok b _ z
      obtain ⟨e2,_⟩:=hok' b _ z2
      rw [e] at e1; cases e1
      exact e2
 cases hk:K.lookup a with
 | some o =>
  have e:=KX a o hk
  rw [ha] at e
  cases e
  refine core (fun _=>none) (fun _=>.inl rfl) (.inr ⟨_,vs.toArray,_,hk,rfl,rfl,rfl,by rw [List.size_toArray,lenV]; exact hl,by simpa using rv⟩) (fun b u z=>by have z':(none:Option HO) = some u:=z; cases z') (fun b z=>absurd rfl z) fun z=>absurd rfl z
 | none =>
  refine core (fun b=>if b = a then some (.frz { cls:=.type "list",data:=.seq vs.toArray } (.lst (ns.map V.int))) else none) (fun b=>?_) (.inl (.inr ⟨{ cls:=.type "list",data:=.seq vs.toArray },if_pos rfl⟩)) (fun b u z=>?_) (fun b z=>?_) fun _=>hk
  ·by_cases hb:b = a
   ·exact .inr ⟨_,_,if_pos hb⟩
   ·exact .inl (if_neg hb)
  ·by_cases hb:b = a
   ·have z':=(if_pos hb).symm.trans z
    cases z'
    subst hb
    exact ⟨ha,by rw [List.length_map]; exact hl,vs,_,rv,ha⟩
   ·have z':=(if_neg hb).symm.trans z
    cases z'
  ·by_cases hb:b = a
   ·exact hb
   ·exact absurd (if_neg hb) z
end L2
namespace L2
open PySem PySem.Spec PyProof.Rows
noncomputable abbrev KOf {K:PySem.W.Frag} {h:Heap} (_:K.In h):PySem.W.Frag:=K
end L2
namespace L2
open PySem PySem.Spec PyProof.Rows
noncomputable def inClass (s:Stmt) (j:Nat):Stmt:=match s with
 | .ClassDef _ _ _ body _ _ _ _ _ _ _=>body.getD j (.Pass ⟨0,0,0,0⟩)
 | _=>.Pass ⟨0,0,0,0⟩
noncomputable def defArgs (s:Stmt):Arguments:=match s with
 | .FunctionDef _ a _ _ _ _ _ _ _ _=>a
 | _=>{ posonlyargs:=[],args:=[],vararg:=none,kwonlyargs:=[],kw_defaults:=[],kwarg:=none,defaults:=[] }
noncomputable def defBody (s:Stmt):List Stmt:=match s with
 | .FunctionDef _ _ b _ _ _ _ _ _ _=>b
 | _=>[]
noncomputable def defScope (s:Stmt):Scope:=match s with
 | .FunctionDef _ _ _ _ _ _ sc _ _ _=>sc
 | _=>{ kind:=.function,names:=[],isGenerator:=false,isCoroutine:=false }
noncomputable abbrev CX0:CXT:=fun _ _ _ _ _ _=>False
noncomputable abbrev E0:XK:=fun _ _ _=>False
theorem pass0 {X:Cx}:Passes CX0 X E0:=fun _ _ _ _ _ _ _ h=>h.elim
structure Fun (K:PySem.W.Frag) (x qual:Str) (st:Stmt) (f:Addr) (fd:FuncData):Prop where
 ex:∃ (oc:Value) (od:Option Addr) (kV doc pm:Value) (an:Option Addr) (cdv ct:Value) (osl:Array (Option Value)),
  fd = PySem.W.fnOf x qual (defArgs st) (defBody st) (defScope st) .none kV doc pm an cdv ct ∧ K.lookup f = some ⟨oc,od,.func fd,osl⟩ ∧ PySem.W.codeIn K cdv qual = true
 kp:PySem.W.keepIn K (.ref f) = true
section
variable {P:Program} {w:World} {K:PySem.W.Frag} {mg:Str → Option Value} {base:Heap}
theorem Fun.ok {x qual:Str} {st:Stmt} {f:Addr} {fd:FuncData} {N ps:List Str} {k:Nat} {sp:Sp} (F:Fun K x qual st f fd) (S:FnScope N ps (defScope st)) (len:∀ vs H Q E,sp vs H Q E → vs.length = ps.length)
  (hbody:∀ (cdv:Value) (A:Around) (outer:List Env) (s:Shared) (H:Hp) (vs:List V) (Q:VK) (E:XK),Room k (A.deeper (envOfC qual (defScope st) s.heap.objs.size f cdv)) → sp vs H Q E →
   ∃ t,PSs (cxOf CX0 P w K mg base N qual (defScope st) f cdv A outer s H E).nox (defBody st) t ∧ t { nx:=fun _ H'=>Q .non H',rt:=Q } (start N vs) H):FnOk P w K mg base CX0 (k + 1) f fd ps sp:=by
 obtain ⟨oc,od,kV,doc,pm,an,cdv,ct,osl,rfl,lk,hcd⟩:=F.ex
 refine fn_of lk hcd S len fun A outer s H vs Q E hr hsp=>?_
 obtain ⟨t,h,q⟩:=hbody cdv A outer s H vs Q E hr hsp
 exact ⟨t,h.nox,q⟩
theorem Fun.binds {x qual:Str} {st:Stmt} {f:Addr} {fd:FuncData} {ps:List Str} (F:Fun K x qual st f fd)
  (h:∀ (kV doc pm:Value) (an:Option Addr) (cdv ct:Value) (us:List Value),us.length = ps.length → bindArgs (PySem.W.fnOf x qual (defArgs st) (defBody st) (defScope st) .none kV doc pm an cdv ct) ⟨us,[]⟩ = pure (ps.zip us)):Binds K fd ps []:=by
 obtain ⟨oc,od,kV,doc,pm,an,cdv,ct,osl,rfl,lk,hcd⟩:=F.ex
 exact .all (h kV doc pm an cdv ct)
theorem fun_mk {x qual:Str} {st:Stmt} {f:Addr} {oc:Value} {od an:Option Addr} {osl:Array (Option Value)} {kV doc pm cdv ct:Value} (l:K.lookup f = some ⟨oc,od,.func (PySem.W.fnOf x qual (defArgs st) (defBody st) (defScope st) .none kV doc pm an cdv ct),osl⟩)
  (c:PySem.W.codeIn K cdv qual = true) (k:PySem.W.keepIn K (.ref f) = true):Fun K x qual st f (PySem.W.fnOf x qual (defArgs st) (defBody st) (defScope st) .none kV doc pm an cdv ct):=⟨⟨oc,od,kV,doc,pm,an,cdv,ct,osl,rfl,l,c⟩,k⟩
end
section
variable {X:Cx}
theorem pv (i:Nat) {x:Str} {pos:Pos} (hN:X.N[i]? = some x:=by rfl) (hv:Vis X.env.scope x:=by first | exact Or.inl rfl | exact Or.inr (Or.inl rfl) | exact Or.inr (Or.inr rfl)) (hd:(x == ("__debug__":Str)) = false:=by decide)
  (hcd:(x == ("__classdict__":Str)) = false:=by decide):PE X (.Name x pos) (tVar i):=pe_var hN hv hd hcd
end
noncomputable def Same (H H':Hp):Prop:=∀ b o,H b = some o → H' b = some o
theorem Same.refl (H:Hp):Same H H:=fun _ _ h=>h
theorem Same.trans {H H1 H2:Hp} (a:Same H H1) (b:Same H1 H2):Same H H2:=fun c o h=>b c o (a c o h)
theorem Same.free {H H':Hp} (e:Same H H') {l:Addr} (h:H' l = Option.none):H l = Option.none:=by
 cases q:H l with
 | none=>rfl
 | some o =>
  rw [e l o q] at h
  cases h
theorem Same.seq {K:PySem.W.Frag} {H H':Hp} {a:Addr} {xs:List V} (e:Same H H') (h:SqL K H a xs):SqL K H' a xs:=by
 rcases h with (h | ⟨o,h⟩) | h
 ·exact .inl (.inl (e _ _ h))
 ·exact .inl (.inr ⟨o,e _ _ h⟩)
 ·exact .inr h
section
variable {κ:Type} [DecidableEq κ]
end
theorem at_of {xs:List V} {z:Int} {j:Nat} {v:V} (e:z = (j:Int)) (h:xs[j]? = some v):atI xs z = some v:=by
 rw [e]
 exact atI_nat h
end L2
section
namespace L2
open PySem PySem.Spec PyProof.Rows
open PySem.W (WData Codec OpenSpec Well WellAll ReadsW ReadsAllW)
mutual
inductive Dw (K:PySem.W.Frag) (H:Hp):V → WData → Prop
 | non:Dw K H .non .none
 | bl (b:Bool):Dw K H (.bl b) (.bool b)
 | int (i:Int):Dw K H (.int i) (.int i)
 | str (x:Str):Dw K H (.str x) (.str x)
 | byt (b:Array UInt8):Dw K H (.byt b) (.bytes b.toList)
 | lst {a:Addr} {xs:List V} {ds:List WData}:SqL K H a xs → DwAll K H xs ds → Dw K H (.ref a) (.list ds)
 | tup {a:Addr} {xs:List V} {ds:List WData}:SqT K H a xs → DwAll K H xs ds → Dw K H (.ref a) (.tuple ds)
inductive DwAll (K:PySem.W.Frag) (H:Hp):List V → List WData → Prop
 | nil:DwAll K H [] []
 | cons {v:V} {vs:List V} {d:WData} {ds:List WData}:Dw K H v d → DwAll K H vs ds → DwAll K H (v :: vs) (d :: ds)
end
theorem dw_ints {K:PySem.W.Frag} {H:Hp}:∀ ns:List Int,DwAll K H (ns.map V.int) (ns.map WData.int)
 | []=>.nil
 | n :: r=>.cons (.int n) (dw_ints r)
theorem ints_dw {K:PySem.W.Frag} {H:Hp}:∀ (ns:List Int) (xs:List V),DwAll K H xs (ns.map WData.int) → xs = ns.map V.int
 | [],xs,h=>by
  cases h
  rfl
 | n :: r,xs,h=>by
  cases h with
  | cons h1 h2 =>
   cases h1
   rw [ints_dw r _ h2] <;> rfl
section
variable {P:Program} {w:World} {K:PySem.W.Frag} {H:Hp} {h:Heap} {R:PySem.W.WRecords} {cl:Str → Option Addr}
theorem sqL_at {a:Addr} {xs:List V} (hok:HOk P w H h) (KX:K.In h) (q:SqL K H a xs):∃ (its:List Value) (o:Obj) (n:Nat),Vals xs its ∧ h.get? a = some o ∧ o.cls = .type "list" ∧ o.data = .seq its.toArray n:=by
 rcases q with q | ⟨o,its,n,e,hc,_,hd,_,hv⟩
 ·obtain ⟨_,its,n,hv,e⟩:=(show ObjOk P w H h a (.lst xs) from q.ok hok)
  exact ⟨its,_,n,hv,e,rfl,rfl⟩
 ·exact ⟨its.toList,o,n,hv,KX _ _ e,hc,by simp [hd]⟩
theorem sqT_at {a:Addr} {xs:List V} (hok:HOk P w H h) (KX:K.In h) (q:SqT K H a xs):∃ (its:List Value) (o:Obj) (n:Nat),Vals xs its ∧ h.get? a = some o ∧ o.cls = .type "tuple" ∧ o.data = .seq its.toArray n:=by
 rcases q with q | ⟨o,its,n,e,hc,hd,_,hv⟩
 ·obtain ⟨_,its,hv,o,e,hc,n,hd⟩:=(show ObjOk P w H h a (.tup xs) from q.ok hok)
  exact ⟨its,o,n,hv,e,hc,hd⟩
 ·exact ⟨its.toList,o,n,hv,KX _ _ e,hc,by simp [hd]⟩
mutual
theorem Dw.reads (hok:HOk P w H h) (KX:K.In h):∀ (d:WData) (v:V) (u:Value),Dw K H v d → RelV v u → ∃ as,ReadsW R cl h u d as
 | .none,_,_,x,r=>by
  cases x
  cases r
  exact ⟨_,ReadsW.none⟩
 | .bool b,_,_,x,r=>by
  cases x
  cases r
  exact ⟨_,ReadsW.bool b⟩
 | .int i,_,_,x,r=>by
  cases x
  obtain ⟨t,rfl⟩:=r
  exact ⟨_,ReadsW.int i t⟩
 | .str s,_,_,x,r=>by
  cases x
  obtain ⟨t,rfl⟩:=r
  exact ⟨_,ReadsW.str s t⟩
 | .bytes b,_,_,x,r=>by
  cases x
  obtain ⟨t,rfl⟩:=r
  exact ⟨_,ReadsW.bytes _ t⟩
 | .list ds,_,_,x,r=>by
  cases x with
  | lst hs ha =>
   cases r
   obtain ⟨its,o,n,rv,ho,hc,hd⟩:=sqL_at hok KX hs
   obtain ⟨as,hr⟩:=Dw.readsAll hok KX ds _ its ha rv
   exact ⟨_,ReadsW.list ho hc hd hr⟩
 | .tuple ds,_,_,x,r=>by
  cases x with
  | tup hs ha =>
   cases r
   obtain ⟨its,o,n,rv,ho,hc,hd⟩:=sqT_at hok KX hs
   obtain ⟨as,hr⟩:=Dw.readsAll hok KX ds _ its ha rv
   exact ⟨_,ReadsW.tuple ho hc hd hr⟩
 | .float _,_,_,x,_=>by cases x
 | .dict _,_,_,x,_=>by cases x
 | .bytearray _,_,_,x,_=>by cases x
 | .set _,_,_,x,_=>by cases x
 | .frozenset _,_,_,x,_=>by cases x
 | .obj _ _,_,_,x,_=>by cases x
theorem Dw.readsAll (hok:HOk P w H h) (KX:K.In h):∀ (ds:List WData) (vs:List V) (us:List Value),DwAll K H vs ds → Vals vs us → ∃ as,ReadsAllW R cl h us ds as
 | [],_,_,x,r=>by
  cases x
  cases r
  exact ⟨_,ReadsAllW.nil⟩
 | d :: ds,_,_,x,r=>by
  cases x with
  | cons h1 h2 =>
   cases r with
   | cons r1 r2 =>
    obtain ⟨as,q1⟩:=Dw.reads hok KX d _ _ h1 r1
    obtain ⟨bs,q2⟩:=Dw.readsAll hok KX ds _ _ h2 r2
    exact ⟨_,ReadsAllW.cons q1 q2⟩
end
end
mutual
noncomputable def plW:WData → Bool
 | .none=>true
 | .bool _=>true
 | .int _=>true
 | .str _=>true
 | .bytes _=>true
 | .list xs=>plWs xs
 | .tuple xs=>plWs xs
 | _=>false
noncomputable def plWs:List WData → Bool
 | []=>true
 | x :: r=>plW x && plWs r
end
theorem plWs_map {α:Type} {f:α → WData} (h:∀ a,plW (f a) = true):∀ l:List α,plWs (l.map f) = true
 | []=>rfl
 | x :: r=>by
  show (plW (f x) && plWs (r.map f)) = true
  rw [h x,plWs_map h r] <;> rfl
theorem pl_enc:∀ (c:Codec) (a:c.denote),plW (c.enc a) = true
 | .unit,_=>rfl
 | .bool,_=>rfl
 | .int _ _,_=>rfl
 | .nat _ _,_=>rfl
 | .u8,_=>rfl
 | .bytes _ _,_=>rfl
 | .text _ _ _ _,_=>rfl
 | .list _ _ c,a=>plWs_map (fun x=>pl_enc c x) a
 | .pair c d,a=>by
  show (plW (c.enc a.1) && (plW (d.enc a.2) && true)) = true
  rw [pl_enc c a.1,pl_enc d a.2] <;> rfl
 | .triple c d e,a=>by
  show (plW (c.enc a.1) && (plW (d.enc a.2.1) && (plW (e.enc a.2.2) && true))) = true
  rw [pl_enc c a.1,pl_enc d a.2.1,pl_enc e a.2.2] <;> rfl
 | .option c,none=>rfl
 | .option c,some x=>pl_enc c x
theorem pl_encAll:∀ (cs:List Codec) (a:Codec.denoteAll cs),plWs (Codec.encAll cs a) = true
 | [],_=>rfl
 | c :: cs,a=>by
  show (plW (c.enc a.1) && plWs (Codec.encAll cs a.2)) = true
  rw [pl_enc c a.1,pl_encAll cs a.2] <;> rfl
theorem weight_mem:∀ {xs:List WData} {d:WData},d ∈ xs → d.weight ≤ WData.weightAll xs
 | [],d,h=>absurd h (by simp)
 | x :: r,d,h=>by
  show d.weight ≤ x.weight + 1 + WData.weightAll r
  rcases List.mem_cons.mp h with e | m
  ·rw [e]
   omega
  ·have z:=weight_mem m
   omega
noncomputable def toV:Value → V
 | .none=>.non
 | .bool b=>.bl b
 | .int i _=>.int i
 | .str x _=>.str x
 | .bytes b _=>.byt b
 | .ref a=>.ref a
 | _=>.non
noncomputable def OkU (A:List Addr):Value → Prop
 | .none=>True
 | .bool _=>True
 | .int _ _=>True
 | .str _ _=>True
 | .bytes _ _=>True
 | .ref a=>a ∈ A
 | _=>False
theorem OkU.mono {A B:List Addr} (h:∀ a ∈ A,a ∈ B):∀ {u:Value},OkU A u → OkU B u:=fun {u} x=>by
 cases u with
 | ref a=>exact h a x
 | none=>trivial
 | bool b=>trivial
 | int i t=>trivial
 | str s t=>trivial
 | bytes b t=>trivial
 | _=>exact False.elim x
theorem relV_toV {A:List Addr} {u:Value} (x:OkU A u):RelV (toV u) u:=by
 cases u with
 | ref a=>rfl
 | none=>rfl
 | bool b=>rfl
 | int i t=>exact ⟨t,rfl⟩
 | str s t=>exact ⟨t,rfl⟩
 | bytes b t=>exact ⟨t,rfl⟩
 | _=>exact False.elim x
theorem vals_toV {A:List Addr}:∀ {vs:List Value},(∀ u ∈ vs,OkU A u) → Vals (vs.map toV) vs
 | [],_=>.nil
 | u :: r,h=>.cons (relV_toV (h u (List.mem_cons_self ..))) (vals_toV fun x hx=>h x (List.mem_cons_of_mem _ hx))
noncomputable def ArgOb (h:Heap) (A:List Addr) (a:Addr):Prop:=∃ vs:List Value,vs.length ≤ sizeLine ∧ (∀ u ∈ vs,OkU A u) ∧
 (h.get? a = some { cls:=.type "list",data:=.seq vs.toArray } ∨ h.get? a = some { cls:=.type "tuple",data:=.seq vs.toArray })
theorem ArgOb.mono {h:Heap} {A B:List Addr} {a:Addr} (k:∀ a ∈ A,a ∈ B) (x:ArgOb h A a):ArgOb h B a:=by
 obtain ⟨vs,h1,h2,h3⟩:=x
 exact ⟨vs,h1,fun u hu=>(h2 u hu).mono k,h3⟩
theorem wellAll_len {P:Params} {h:Heap}:∀ {vs:List Value} {ds:List WData},WellAll P h vs ds → vs.length = ds.length
 | _,_,.nil=>rfl
 | _,_,.cons _ b=>by
  show _ + 1 = _ + 1
  rw [wellAll_len b]
theorem well_list {P:Params} {h:Heap} {v:Value} {ds:List WData} (x:Well P h v (.list ds)):∃ (a:Addr) (vs:List Value),v = .ref a ∧ h.get? a = some { cls:=.type "list",data:=.seq vs.toArray } ∧ WellAll P h vs ds:=by
 cases x with
 | list ho hall=>exact ⟨_,_,rfl,ho,hall⟩
theorem well_tuple {P:Params} {h:Heap} {v:Value} {ds:List WData} (x:Well P h v (.tuple ds)):∃ (a:Addr) (vs:List Value),v = .ref a ∧ h.get? a = some { cls:=.type "tuple",data:=.seq vs.toArray } ∧ WellAll P h vs ds:=by
 cases x with
 | tuple ho hall=>exact ⟨_,_,rfl,ho,hall⟩
theorem well_cons {P:Params} {h:Heap} {us:List Value} {d:WData} {ds:List WData} (x:WellAll P h us (d :: ds)):∃ (v:Value) (vs:List Value),us = v :: vs ∧ Well P h v d ∧ WellAll P h vs ds:=by
 cases x with
 | cons a b=>exact ⟨_,_,rfl,a,b⟩
theorem line_of {n:Nat} (h:n ≤ 1048576):n ≤ sizeLine:=Nat.le_trans h (by decide)
section
variable {P:Params} {h:Heap}
mutual
theorem area_one:∀ (d:WData) (v:Value),Well P h v d → plW d = true → d.weight ≤ 1048576 → ∃ A:List Addr,OkU A v ∧ ∀ a ∈ A,ArgOb h A a
 | .none,_,x,_,_=>by
  cases x
  exact ⟨[],trivial,fun a m=>absurd m (by simp)⟩
 | .bool b,_,x,_,_=>by
  cases x
  exact ⟨[],trivial,fun a m=>absurd m (by simp)⟩
 | .int i,_,x,_,_=>by
  cases x
  exact ⟨[],trivial,fun a m=>absurd m (by simp)⟩
 | .str s,_,x,_,_=>by
  cases x
  exact ⟨[],trivial,fun a m=>absurd m (by simp)⟩
 | .bytes b,_,x,_,_=>by
  cases x
  exact ⟨[],trivial,fun a m=>absurd m (by simp)⟩
 | .list ds,_,x,p,z=>by
  obtain ⟨a,vs,rfl,ho,hall⟩:=well_list x
  have z2:WData.weightAll ds ≤ 1048576:=z
  obtain ⟨A,h1,h2⟩:=area_all ds _ hall p fun d hd=>Nat.le_trans (weight_mem hd) z2
  have k:∀ b ∈ A,b ∈ a :: A:=fun b hb=>List.mem_cons_of_mem _ hb
  refine ⟨a :: A,List.mem_cons_self ..,fun b hb=>?_⟩
  rcases List.mem_cons.mp hb with e | m
  ·rw [e]
   exact ⟨vs,line_of (by rw [wellAll_len hall]; exact Nat.le_trans (PySem.W.length_le_weightAllW ds) z2),fun u hu=>(h1 u hu).mono k,.inl ho⟩
  ·exact (h2 b m).mono k
 | .tuple ds,_,x,p,z=>by
  obtain ⟨a,vs,rfl,ho,hall⟩:=well_tuple x
  have z2:WData.weightAll ds ≤ 1048576:=z
  obtain ⟨A,h1,h2⟩:=area_all ds _ hall p fun d hd=>Nat.le_trans (weight_mem hd) z2
  have k:∀ b ∈ A,b ∈ a :: A:=fun b hb=>List.mem_cons_of_mem _ hb
  refine ⟨a :: A,List.mem_cons_self ..,fun b hb=>?_⟩
  rcases List.mem_cons.mp hb with e | m
  ·rw [e]
   exact ⟨vs,line_of (by rw [wellAll_len hall]; exact Nat.le_trans (PySem.W.length_le_weightAllW ds) z2),fun u hu=>(h1 u hu).mono k,.inr ho⟩
  ·exact (h2 b m).mono k
 | .float _,_,_,p,_=>Bool.noConfusion (show false = true from p)
 | .dict _,_,_,p,_=>Bool.noConfusion (show false = true from p)
 | .bytearray _,_,_,p,_=>Bool.noConfusion (show false = true from p)
 | .set _,_,_,p,_=>Bool.noConfusion (show false = true from p)
 | .frozenset _,_,_,p,_=>Bool.noConfusion (show false = true from p)
 | .obj _ _,_,_,p,_=>Bool.noConfusion (show false = true from p)
theorem area_all:∀ (ds:List WData) (vs:List Value),WellAll P h vs ds → plWs ds = true → (∀ d ∈ ds,d.weight ≤ 1048576) → ∃ A:List Addr,(∀ u ∈ vs,OkU A u) ∧ ∀ a ∈ A,ArgOb h A a
 | [],_,x,_,_=>by
  cases x
  exact ⟨[],fun u m=>absurd m (by simp),fun a m=>absurd m (by simp)⟩
 | d :: ds,_,x,p,z=>by
  obtain ⟨v,vs,rfl,x1,x2⟩:=well_cons x
  have q:plW d = true ∧ plWs ds = true:=Bool.and_eq_true_iff.mp p
  obtain ⟨A,a1,a2⟩:=area_one d v x1 q.1 (z d (List.mem_cons_self ..))
  obtain ⟨B,b1,b2⟩:=area_all ds vs x2 q.2 fun e he=>z e (List.mem_cons_of_mem _ he)
  have kA:∀ b ∈ A,b ∈ A ++ B:=fun b hb=>List.mem_append.mpr (.inl hb)
  have kB:∀ b ∈ B,b ∈ A ++ B:=fun b hb=>List.mem_append.mpr (.inr hb)
  refine ⟨A ++ B,fun u hu=>?_,fun b hb=>?_⟩
  ·rcases List.mem_cons.mp hu with e | m
   ·rw [e]
    exact a1.mono kA
   ·exact (b1 u m).mono kB
  ·rcases List.mem_append.mp hb with m | m
   ·exact (a2 b m).mono kA
   ·exact (b2 b m).mono kB
end
end
noncomputable def hoOf (o:Obj):Option HO:=match o.data with
 | .seq vs _=>if (o.cls == Value.type "list") = true then some (.frz o (.lst (vs.toList.map toV))) else some (.frz o (.tup (vs.toList.map toV)))
 | _=>none
noncomputable def argH (K:PySem.W.Frag) (h:Heap) (A:List Addr):Hp:=fun b=>if b ∈ A then (if (K.lookup b).isNone = true then (h.get? b).bind hoOf else none) else none
noncomputable def OnlyF (H:Hp):Prop:=∀ b,H b = none ∨ ∃ o u,H b = some (.frz o u)
theorem hoOf_lst (vs:List Value):hoOf { cls:=.type "list",data:=.seq vs.toArray } = some (.frz { cls:=.type "list",data:=.seq vs.toArray } (.lst (vs.map toV))):=by
 show (if (Value.type "list" == Value.type "list") = true then some (HO.frz { cls:=.type "list",data:=.seq vs.toArray } (.lst (vs.toArray.toList.map toV))) else some (HO.frz { cls:=.type "list",data:=.seq vs.toArray } (.tup (vs.toArray.toList.map toV)))) = _
 rw [if_pos (beq_self_eq_true _)]
theorem hoOf_tup (vs:List Value):hoOf { cls:=.type "tuple",data:=.seq vs.toArray } = some (.frz { cls:=.type "tuple",data:=.seq vs.toArray } (.tup (vs.map toV))):=by
 show (if (Value.type "tuple" == Value.type "list") = true then some (HO.frz { cls:=.type "tuple",data:=.seq vs.toArray } (.lst (vs.toArray.toList.map toV))) else some (HO.frz { cls:=.type "tuple",data:=.seq vs.toArray } (.tup (vs.toArray.toList.map toV)))) = _
 rw [if_neg (by decide)]
section
variable {P:Program} {w:World} {K:PySem.W.Frag} {h:Heap} {A:List Addr}
theorem argH_at {b:Addr} {o:Obj} (hb:b ∈ A) (hk:K.lookup b = none) (e:h.get? b = some o):argH K h A b = hoOf o:=by
 unfold argH
 rw [if_pos hb,hk,if_pos (show (none:Option Obj).isNone = true from rfl),e] <;> rfl
theorem of_argH {b:Addr} {u:HO} (q:argH K h A b = some u):b ∈ A ∧ K.lookup b = none:=by
 unfold argH at q
 by_cases hb:b ∈ A
 ·rw [if_pos hb] at q
  cases hk:K.lookup b with
  | none=>exact ⟨hb,rfl⟩
  | some o =>
   rw [hk,if_neg (by simp)] at q
   cases q
 ·rw [if_neg hb] at q
  cases q
theorem argH_is (ar : ∀ a ∈ A, ArgOb h A a) {b : Addr} {u : HO} (q : argH K h A b = some u) : K.lookup b = none ∧ ∃ vs : List Value, vs.length ≤ sizeLine ∧ (∀ u ∈ vs, OkU A u) ∧
    ((h.get? b = some { cls := .type "list", data := .seq vs.toArray } ∧ u = .frz { cls := .type "list", data := .seq vs.toArray } (.lst (vs.map toV))) ∨
     (h.get? b = some { cls := .type "tuple", data := .seq vs.toArray } ∧ u = .frz { cls := .type "tuple", data := .seq vs.toArray } (.tup (vs.map toV)))) := by
  obtain ⟨hb, hk⟩ := of_argH q
  obtain ⟨vs, h1, h2, h3⟩ := ar b hb
  refine ⟨hk, vs, h1, h2, ?_⟩
  rcases h3 with e | e
  · rw [argH_at hb hk e, hoOf_lst] at q
    exact .inl ⟨e, (Option.some.inj q).symm⟩
  · rw [argH_at hb hk e, hoOf_tup] at q
    exact .inr ⟨e, (Option.some.inj q).symm⟩
theorem argH_only (ar:∀ a ∈ A,ArgOb h A a):OnlyF (argH K h A):=fun b=>by
 cases q:argH K h A b with
 | none=>exact .inl rfl
 | some u =>
  obtain ⟨_,vs,_,_,⟨_,e⟩ | ⟨_,e⟩⟩:=argH_is ar q
  ·exact .inr ⟨_,_,by rw [e]⟩
  ·exact .inr ⟨_,_,by rw [e]⟩
theorem argH_ok (ar:∀ a ∈ A,ArgOb h A a):HOk P w (argH K h A) h:=fun b u q=>by
 obtain ⟨_,vs,h1,h2,⟨e,rfl⟩ | ⟨e,rfl⟩⟩:=argH_is ar q
 ·exact ⟨e,by rw [List.length_map]; exact h1,vs,_,vals_toV h2,e⟩
 ·exact ⟨e,by rw [List.length_map]; exact h1,vs,vals_toV h2,_,e,rfl,_,rfl⟩
theorem seq_inj {c c':Value} {vs us:List Value} (e:(some { cls:=c,data:=.seq vs.toArray }:Option Obj) = some { cls:=c',data:=.seq us.toArray }):c = c' ∧ vs = us:=by
 have e1:=Option.some.inj e
 have e2:c = c':=congrArg Obj.cls e1
 have e3:Data.seq vs.toArray = Data.seq us.toArray:=congrArg Obj.data e1
 injection e3 with e4
 refine ⟨e2,?_⟩
 have e5:=congrArg Array.toList e4
 simpa using e5
theorem argL (KX:K.In h) (ar:∀ a ∈ A,ArgOb h A a) {a:Addr} {vs:List Value} (ha:a ∈ A) (e:h.get? a = some { cls:=.type "list",data:=.seq vs.toArray }):(∀ u ∈ vs,OkU A u) ∧ SqL K (argH K h A) a (vs.map toV):=by
 obtain ⟨us,h1,h2,h3⟩:=ar a ha
 have hu:us = vs:=by
  rcases h3 with q | q
  ·rw [e] at q
   exact (seq_inj q).2.symm
  ·rw [e] at q
   exact absurd (Value.type.inj (seq_inj q).1) (by decide)
 subst hu
 refine ⟨h2,?_⟩
 cases hk:K.lookup a with
 | none=>exact .inl (.inr ⟨_,by rw [argH_at ha hk e,hoOf_lst]⟩)
 | some o =>
  have e2:=KX a o hk
  rw [e] at e2
  obtain rfl:=Option.some.inj e2
  exact .inr ⟨_,us.toArray,_,hk,rfl,rfl,rfl,by rw [List.size_toArray]; exact h1,by simpa using vals_toV h2⟩
theorem argT (KX:K.In h) (ar:∀ a ∈ A,ArgOb h A a) {a:Addr} {vs:List Value} (ha:a ∈ A) (e:h.get? a = some { cls:=.type "tuple",data:=.seq vs.toArray }):(∀ u ∈ vs,OkU A u) ∧ SqT K (argH K h A) a (vs.map toV):=by
 obtain ⟨us,h1,h2,h3⟩:=ar a ha
 have hu:us = vs:=by
  rcases h3 with q | q
  ·rw [e] at q
   exact absurd (Value.type.inj (seq_inj q).1) (by decide)
  ·rw [e] at q
   exact (seq_inj q).2.symm
 subst hu
 refine ⟨h2,?_⟩
 cases hk:K.lookup a with
 | none=>exact .inl (.inr ⟨_,by rw [argH_at ha hk e,hoOf_tup]⟩)
 | some o =>
  have e2:=KX a o hk
  rw [e] at e2
  obtain rfl:=Option.some.inj e2
  exact .inr ⟨_,us.toArray,_,hk,rfl,rfl,by rw [List.size_toArray]; exact h1,by simpa using vals_toV h2⟩
mutual
theorem dw_one {Pm:Params} (KX:K.In h) (ar:∀ a ∈ A,ArgOb h A a):∀ (d:WData) (v:Value),Well Pm h v d → plW d = true → OkU A v → Dw K (argH K h A) (toV v) d
 | .none,_,x,_,_=>by
  cases x
  exact .non
 | .bool b,_,x,_,_=>by
  cases x
  exact .bl b
 | .int i,_,x,_,_=>by
  cases x
  exact .int i
 | .str s,_,x,_,_=>by
  cases x
  exact .str s
 | .bytes b,_,x,_,_=>by
  cases x
  have z:=Dw.byt (K:=K) (H:=argH K h A) b.toArray
  exact z
 | .list ds,_,x,p,hu=>by
  obtain ⟨a,vs,rfl,ho,hall⟩:=well_list x
  obtain ⟨h2,hs⟩:=argL KX ar hu ho
  exact .lst hs (dw_all KX ar ds _ hall p h2)
 | .tuple ds,_,x,p,hu=>by
  obtain ⟨a,vs,rfl,ho,hall⟩:=well_tuple x
  obtain ⟨h2,hs⟩:=argT KX ar hu ho
  exact .tup hs (dw_all KX ar ds _ hall p h2)
 | .float _,_,_,p,_=>Bool.noConfusion (show false = true from p)
 | .dict _,_,_,p,_=>Bool.noConfusion (show false = true from p)
 | .bytearray _,_,_,p,_=>Bool.noConfusion (show false = true from p)
 | .set _,_,_,p,_=>Bool.noConfusion (show false = true from p)
 | .frozenset _,_,_,p,_=>Bool.noConfusion (show false = true from p)
 | .obj _ _,_,_,p,_=>Bool.noConfusion (show false = true from p)
theorem dw_all {Pm:Params} (KX:K.In h) (ar:∀ a ∈ A,ArgOb h A a):∀ (ds:List WData) (vs:List Value),WellAll Pm h vs ds → plWs ds = true → (∀ u ∈ vs,OkU A u) → DwAll K (argH K h A) (vs.map toV) ds
 | [],_,x,_,_=>by
  cases x
  exact .nil
 | d :: ds,_,x,p,hu=>by
  obtain ⟨v,vs,rfl,x1,x2⟩:=well_cons x
  have q:plW d = true ∧ plWs ds = true:=Bool.and_eq_true_iff.mp p
  exact .cons (dw_one KX ar d v x1 q.1 (hu _ (List.mem_cons_self ..))) (dw_all KX ar ds vs x2 q.2 fun u m=>hu u (List.mem_cons_of_mem _ m))
end
end
theorem spec_call {P:Program} {w:World} {K:PySem.W.Frag} {mg mb:Str → Option Value} {CX:CXT} {k:Nat} {fa:Addr} {fd:FuncData} {ps:List Str} {sp:Sp} {s₁:Shared} {vals:List Value} {ds:List WData} {R:PySem.W.WRecords} {cl:Str → Option Addr} {d0:WData}
  (KX:K.In s₁.heap) (hns:s₁.heap.Ns mainGlobals mg) (hb:s₁.heap.Ns builtinsNs mb) (hbb:∀ x:Str,x ≠ "__name__" → mb x = bootBuiltins x) (hlim:s₁.heap.NoLimit) (hg:s₁.gens = #[])
  (hwl:WellAll w.params s₁.heap vals ds) (hpl:plWs ds = true) (hwt:∀ d ∈ ds,d.weight ≤ 1048576) (hr:Room k callerA)
  (F:∀ base:Heap,K.In base → base.Ns mainGlobals mg → FnOk P w K mg base CX k fa fd ps sp) (hbind:∀ (s:Shared) (us:List Value),us.length = ps.length → BindsTo s fd ⟨us,[]⟩ (ps.zip us)) (hlen:ds.length = ps.length)
  (hsp:∀ (H:Hp) (xs:List V),OnlyF H → DwAll K H xs ds → sp xs H (fun v H'=>Dw K H' v d0) fun _ _ _=>False)
  (hCX:∀ H e s',CX [] H s₁ (fun _ _ _=>False) e s' → False) :
  codeAny (model P w) callerA (.call (.ref fa) ⟨vals,[]⟩) (fun r s'=>∃ u as,r = .ok (.ret u) ∧ ReadsW R cl s'.heap u d0 as ∧ OldK s₁.heap s'.heap ∧ s'.os = s₁.os ∧ AllBare s'.gens) s₁:=by
 obtain ⟨A,ho,ar⟩:=area_all ds vals hwl hpl hwt
 have hO:OnlyF (argH K s₁.heap A):=argH_only ar
 have hok:HOk P w (argH K s₁.heap A) s₁.heap:=argH_ok ar
 have hS:=dw_all KX ar ds vals hwl hpl ho
 have hV:=vals_toV ho
 have hK:∀ b u,argH K s₁.heap A b = some u → K.lookup b = none:=fun b u q=>(argH_is ar q).1
 have noA:∀ {b:Addr} {o:Obj} {es:Array DictEntry} {ep:Nat},s₁.heap.get? b = some o → o.data = .dict es ep → argH K s₁.heap A b = none:=fun {b o es ep} e d=>by
  cases q:argH K s₁.heap A b with
  | none=>rfl
  | some u =>
   obtain ⟨_,vs,_,_,⟨e2,_⟩ | ⟨e2,_⟩⟩:=argH_is ar q
   ·rw [e2] at e
    cases e
    have d':Data.seq vs.toArray _ = Data.dict es ep:=d
    cases d'
   ·rw [e2] at e
    cases e
    have d':Data.seq vs.toArray _ = Data.dict es ep:=d
    cases d'
 generalize argH K s₁.heap A = H at hO hok hS hK noA
 have base_of:∀ {b:Addr} {o:Obj},s₁.heap.get? b = some o → H b = none → (hidT s₁.heap H).get? b = some o:=fun e n=>hidT_get e n
 have nsK:∀ {b:Addr} {m:Str → Option Value},s₁.heap.Ns b m → (hidT s₁.heap H).Ns b m:=fun {b m} ⟨o,es,ep,e,d,r⟩=>⟨o,es,ep,base_of e (noA e d),d,r⟩
 have nK:∀ b o,K.lookup b = some o → H b = none:=fun b o e=>by
  cases q:H b with
  | none=>rfl
  | some u =>
   rw [hK b u q] at e
   cases e
 have hKb:K.In (hidT s₁.heap H):=fun b o e=>base_of (KX b o e) (nK b o e)
 have hM:Mod K mg (hidT s₁.heap H):=⟨hKb,nsK hns,⟨mb,nsK hb,hbb⟩,let ⟨mc,h1,h2⟩:=hlim; ⟨mc,nsK h1,h2⟩⟩
 have e0:Env0 P w K mg (hidT s₁.heap H) callerA [] s₁ H:=⟨rfl,hM,fun b o e=>of_hidT e,Nat.le_of_eq (hidT_size _ _),trivial,fun b hb=>absurd (show b ∈ ([]:List Addr) from hb) (by simp),hok,.of_eq hg⟩
 have hl:vals.length = ps.length:=by rw [wellAll_len hwl]; exact hlen
 refine codeAny_mono ((F _ hKb (nsK hns)).run callerA [] s₁ H ⟨vals,[]⟩ vals (vals.map toV) _ _ hr e0 (hbind s₁ vals hl) hV (hsp H _ hO hS)) fun r s' x=>?_
 cases r with
 | error e=>exact (hCX H e s' x).elim
 | ok fl =>
  cases fl with
  | next=>exact False.elim x
  | brk=>exact False.elim x
  | cont=>exact False.elim x
  | ret u =>
   obtain ⟨v,H',os,bare,un,hok',r',q⟩:=x
   have kept:∀ b o,s₁.heap.get? b = some o → s'.heap.get? b = some o:=fun b o e=>by
    cases q2:H b with
    | none=>exact un.keep b o e q2 (by intro z; exact absurd (show b ∈ ([]:List Addr) from z) (by simp)) (by simp)
    | some u2 =>
     rcases hO b with z | ⟨ob,u3,z⟩
     ·rw [q2] at z
      cases z
     ·have z2:=un.frzs b ob _ z
      obtain ⟨e1,_⟩:=hok b _ z
      obtain ⟨e2,_⟩:=hok' b _ z2
      rw [e] at e1
      cases e1
      exact e2
   have KX':K.In s'.heap:=fun b o e=>kept b o (KX b o e)
   obtain ⟨as,hrd⟩:=Dw.reads (R:=R) (cl:=cl) hok' KX' d0 v u q r'
   exact ⟨u,as,rfl,hrd,OldK.of_keep kept,os,bare⟩
theorem layable_weight {ds:List WData} (h:WData.layableAll ds = true):∀ d ∈ ds,d.weight ≤ 1048576:=fun d hd =>
 (PySem.W.layableW_iff.mp (List.all_eq_true.mp h d hd)).2.2
theorem encAll_len:∀ (cs:List Codec) (a:Codec.denoteAll cs),(Codec.encAll cs a).length = cs.length
 | [],_=>rfl
 | c :: cs,a=>by
  show (Codec.encAll cs a.2).length + 1 = cs.length + 1
  rw [encAll_len cs a.2]
theorem walk_spec {r:OpenSpec} {k:Nat} {q:Program} {loose:List Str} {XP:(Str → Option Value) → Heap → Prop} {YP:World → Heap → Prop} {d:DefRec} {K:Params → PySem.W.Frag} {CX:World → CXT} {ps:List Str} {sp:World → Sp}
  (hwell:r.wellSaid = true) (hdf:d.params.defaults = []) (hlen:r.args.length = ps.length) (hr:Room k callerA)
  (hY:∀ (w:World) (h:Heap),YP w h → (K w.params).In h)
  (F:∀ (w:World) (mg:Str → Option Value) (fa:Addr) (h:Heap),YP w h → (K w.params).In h → h.Ns mainGlobals mg → mg d.name = some (.ref fa) →
   ∃ fd:FuncData,(∀ (s:Shared) (us:List Value),us.length = ps.length → BindsTo s fd ⟨us,[]⟩ (ps.zip us)) ∧
    ∀ base:Heap,(K w.params).In base → base.Ns mainGlobals mg → FnOk r.prog w (K w.params) mg base (CX w) k fa fd ps (sp w))
  (hsp:∀ (w:World) (H:Hp) (xs:List V) (a:Codec.denoteAll r.args),OnlyF H → Codec.withinAll r.args a = true → Codec.app r.args r.asked a = true → DwAll (K w.params) H xs (Codec.encAll r.args a) →
   sp w xs H (fun v H'=>Dw (K w.params) H' v (r.ret.enc (Codec.app r.args r.f a))) fun _ _ _=>False)
  (hCX:∀ (w:World) (H:Hp) (s:Shared) (e:Value) (s':Shared),CX w [] H s (fun _ _ _=>False) e s' → False) :
  PySem.W.WalkOS q loose XP YP r d [] (fun f vs=>PySem.call f vs):=by
 intro w s_0 s₁ mg mb G Y fa o pm cd doc dV kV ho hd hcd hD hmg hg args vals as hpre hlay hrd hwl hlo
 obtain ⟨a,e1,e2⟩:=PySem.W.os_pre_some hpre
 obtain ⟨e3,hwi⟩:=Codec.encAll_of_decAll r.args args a e1
 subst e3
 have KX:=hY w _ Y
 obtain ⟨fd,hb,hF⟩:=F w mg fa _ Y KX G.T.g hmg
 refine PySem.W.enter_call (codeAny_mono (spec_call (R:=[]) (cl:=classAt s_0.heap) (d0:=r.ret.enc (Codec.app r.args r.f a)) KX G.T.g G.T.b G.T.builtins G.T.nolimit hg hwl (pl_encAll _ _) (layable_weight hlay) hr hF hb (by rw [encAll_len]; exact hlen)
  (fun H xs hO hS=>hsp w H xs a hO hwi e2 hS) fun H e s'=>hCX w H s₁ e s') fun r' s' hq=>?_)
 obtain ⟨u,as',rfl,h1,h2,h3,h4⟩:=hq
 exact ⟨.inl ⟨u,_,as',rfl,fun _=>rfl,h1,(OpenSpec.post_iff hwell hwi _ _).mpr rfl,fun z=>Bool.noConfusion (show false = true from z)⟩,h2,h3,h4⟩
theorem walk_specK {r:OpenSpec} {k:Nat} {q:Program} {loose:List Str} {XP:(Str → Option Value) → Heap → Prop} {YP:World → Heap → Prop} {d:DefRec} {K:Params → PySem.W.Frag} {CX:CXT} {ps:List Str} {sp:PySem.W.Frag → Sp}
  (hwell:r.wellSaid = true) (hdf:d.params.defaults = []) (hlen:r.args.length = ps.length) (hr:Room k callerA)
  (hY:∀ (w:World) (h:Heap),YP w h → (K w.params).In h)
  (F:∀ (w:World) (mg:Str → Option Value) (fa:Addr) (h:Heap),YP w h → (K w.params).In h → h.Ns mainGlobals mg → mg d.name = some (.ref fa) →
   ∃ fd:FuncData,(∀ (s:Shared) (us:List Value),us.length = ps.length → BindsTo s fd ⟨us,[]⟩ (ps.zip us)) ∧
    ∀ base:Heap,(K w.params).In base → base.Ns mainGlobals mg → FnOk r.prog w (K w.params) mg base CX k fa fd ps (sp (K w.params)))
  (hsp:∀ (K:PySem.W.Frag) (H:Hp) (xs:List V) (a:Codec.denoteAll r.args),OnlyF H → Codec.withinAll r.args a = true → Codec.app r.args r.asked a = true → DwAll K H xs (Codec.encAll r.args a) →
   sp K xs H (fun v H'=>Dw K H' v (r.ret.enc (Codec.app r.args r.f a))) fun _ _ _=>False)
  (hCX:∀ (H:Hp) (s:Shared) (e:Value) (s':Shared),CX [] H s (fun _ _ _=>False) e s' → False) :
  PySem.W.WalkOS q loose XP YP r d [] (fun f vs=>PySem.call f vs) :=
 walk_spec (K:=K) (CX:=fun _=>CX) (sp:=fun w=>sp (K w.params)) hwell hdf hlen hr hY F (fun w H xs a h1 h2 h3 h4=>hsp (K w.params) H xs a h1 h2 h3 h4) fun _ H s e s'=>hCX H s e s'
end L2
end
namespace Wm
open Lean.Grind (CommRing)
class IsFld (K:Type) [CommRing K]:Prop where
 one_ne:(1:K) ≠ 0
 inv:∀ a:K,a ≠ 0 → ∃ b:K,a * b = 1
section
set_option linter.unusedSectionVars false
variable {K:Type} [CommRing K]
noncomputable def S:Nat → (Nat → K) → K
 | 0,_=>0
 | n + 1,f=>S n f + f n
theorem S_congr {f g:Nat → K}:∀ {n:Nat},(∀ i,i < n → f i = g i) → S n f = S n g
 | 0,_=>rfl
 | n + 1,h=>by
  show S n f + f n = S n g + g n
  rw [S_congr (n:=n) fun i hi=>h i (by omega),h n (by omega)]
theorem S_add (f g:Nat → K):∀ n,S n (fun i=>f i + g i) = S n f + S n g
 | 0=>by show (0:K) = 0 + 0; grind
 | n + 1=>by
  show S n (fun i=>f i + g i) + (f n + g n) = (S n f + f n) + (S n g + g n)
  rw [S_add f g n]; grind
theorem S_mul (c:K) (f:Nat → K):∀ n,S n (fun i=>c * f i) = c * S n f
 | 0=>by show (0:K) = c * 0; grind
 | n + 1=>by
  show S n (fun i=>c * f i) + c * f n = c * (S n f + f n)
  rw [S_mul c f n]; grind
theorem S_mulr (c:K) (f:Nat → K):∀ n,S n (fun i=>f i * c) = S n f * c
 | 0=>by show (0:K) = 0 * c; grind
 | n + 1=>by
  show S n (fun i=>f i * c) + f n * c = (S n f + f n) * c
  rw [S_mulr c f n]; grind
theorem S_zero:∀ n,S n (fun _=>(0:K)) = 0
 | 0=>rfl
 | n + 1=>by
  show S n (fun _=>(0:K)) + 0 = 0
  rw [S_zero n]; grind
theorem S_zero' {n:Nat} {f:Nat → K} (h:∀ i,i < n → f i = 0):S n f = 0:=by
 rw [S_congr h,S_zero]
theorem S_swap (f:Nat → Nat → K) (m:Nat):∀ n,S n (fun i=>S m (fun j=>f i j)) = S m (fun j=>S n (fun i=>f i j))
 | 0=>by show (0:K) = S m (fun _=>0); rw [S_zero]
 | n + 1=>by
  show S n (fun i=>S m (fun j=>f i j)) + S m (fun j=>f n j) = S m (fun j=>S n (fun i=>f i j) + f n j)
  rw [S_swap f m n,S_add]
theorem S_delta (f:Nat → K) (i:Nat):∀ n,S n (fun j=>if j = i then f j else 0) = if i < n then f i else 0
 | 0=>by simp [S]
 | n + 1=>by
  show S n (fun j=>if j = i then f j else 0) + (if n = i then f n else 0) = _
  rw [S_delta f i n]
  by_cases h:n = i
  ·subst h; simp; grind
  ·by_cases h2:i < n
   ·have:i < n + 1:=by omega
    simp [h,h2,this]; grind
   ·have:¬ i < n + 1:=by omega
    simp [h,h2,this]; grind
theorem S_append (f:Nat → K) (m:Nat):∀ n,S (m + n) f = S m f + S n (fun i=>f (m + i))
 | 0=>by show S m f = S m f + 0; grind
 | n + 1=>by
  show S (m + n) f + f (m + n) = S m f + (S n (fun i=>f (m + i)) + f (m + n))
  rw [S_append f m n]; grind
theorem S_shift (f:Nat → K) (n:Nat):S (n + 1) f = f 0 + S n (fun i=>f (i + 1)):=by
 have h:=S_append f 1 n
 rw [Nat.add_comm] at h
 rw [h]
 have e:(fun i=>f (1 + i)) = fun i=>f (i + 1):=by funext i; rw [Nat.add_comm]
 rw [e]
 show (0 + f 0) + _ = _
 grind
theorem S_prod (f:Nat → K) (n:Nat):∀ m,S (m * n) f = S m (fun i=>S n (fun j=>f (i * n + j)))
 | 0=>by rw [Nat.zero_mul]; rfl
 | m + 1=>by
  rw [Nat.succ_mul,S_append,S_prod f n m]
  rfl
structure LM (K:Type) where
 n:Nat
 f:Nat → K
 l:Nat → K
 h:Nat → Nat → Nat → K
noncomputable abbrev Wd:=List Nat
noncomputable def lets (k:Nat) (w:Wd):Prop:=∀ a,a ∈ w → a < k
theorem lets_nil (k:Nat):lets k []:=fun _ h=>by cases h
theorem lets_cons {k a:Nat} {w:Wd}:lets k (a :: w) ↔ a < k ∧ lets k w:=by
 simp [lets]
theorem lets_append {k:Nat} {u v:Wd}:lets k (u ++ v) ↔ lets k u ∧ lets k v:=by
 constructor
 ·intro h; exact ⟨fun a m=>h a (List.mem_append_left _ m),fun a m=>h a (List.mem_append_right _ m)⟩
 ·rintro ⟨h,g⟩ a m
  rcases List.mem_append.1 m with x | x
  ·exact h a x
  ·exact g a x
theorem lets_reverse {k:Nat} {u:Wd}:lets k u.reverse ↔ lets k u:=by simp [lets]
noncomputable def fstep (m:LM K) (v:Nat → K) (a:Nat):Nat → K:=fun j=>S m.n fun i=>v i * m.h a i j
noncomputable def fw (m:LM K) (w:Wd):Nat → K:=w.foldl (fstep m) m.f
noncomputable def bw (m:LM K):Wd → Nat → K
 | []=>m.l
 | a :: w=>fun i=>S m.n fun j=>m.h a i j * bw m w j
noncomputable def wt (m:LM K) (w:Wd):K:=S m.n fun i=>m.f i * bw m w i
theorem fold_bw (m:LM K):∀ (u:Wd) (x:Nat → K) (v:Wd),
  (S m.n fun i=>(u.foldl (fstep m) x) i * bw m v i) = S m.n fun i=>x i * bw m (u ++ v) i
 | [],_,_=>rfl
 | a :: u,x,v=>by
  rw [List.foldl_cons,fold_bw m u]
  show (S m.n fun i=>(S m.n fun t=>x t * m.h a t i) * bw m (u ++ v) i) = S m.n fun i=>x i * S m.n fun j=>m.h a i j * bw m (u ++ v) j
  have e:(fun i=>(S m.n fun t=>x t * m.h a t i) * bw m (u ++ v) i) = fun i=>S m.n fun t=>x t * m.h a t i * bw m (u ++ v) i:=by
   funext i; rw [S_mulr]
  rw [e,S_swap]
  refine S_congr fun i _=>?_
  rw [← S_mul]
  refine S_congr fun j _=>?_
  grind
theorem fw_bw (m:LM K) (u v:Wd):(S m.n fun i=>fw m u i * bw m v i) = wt m (u ++ v):=fold_bw m u m.f v
theorem wt_fw (m:LM K) (w:Wd):wt m w = S m.n fun i=>fw m w i * m.l i:=by
 have h:=fw_bw m w []
 rw [List.append_nil] at h
 exact h.symm
theorem fw_snoc (m:LM K) (w:Wd) (a:Nat):fw m (w ++ [a]) = fstep m (fw m w) a:=by
 simp [fw,List.foldl_append]
noncomputable abbrev Comb (K:Type):=List (K × Wd)
noncomputable def cv (m:LM K):Comb K → Nat → K
 | []=>fun _=>0
 | p :: r=>fun j=>p.1 * fw m p.2 j + cv m r j
noncomputable def cwt (m:LM K):Comb K → Wd → K
 | [],_=>0
 | p :: r,v=>p.1 * wt m (p.2 ++ v) + cwt m r v
noncomputable def clets (k:Nat) (c:Comb K):Prop:=∀ p,p ∈ c → lets k p.2
theorem clets_nil (k:Nat):clets k ([]:Comb K):=fun _ h=>by cases h
theorem clets_cons {k:Nat} {p:K × Wd} {c:Comb K}:clets k (p :: c) ↔ lets k p.2 ∧ clets k c:=by
 simp only [clets,List.mem_cons,forall_eq_or_imp]
theorem clets_append {k:Nat} {u v:Comb K}:clets k (u ++ v) ↔ clets k u ∧ clets k v:=by
 simp only [clets,List.mem_append,or_imp,forall_and]
theorem cv_bw (m:LM K) (v:Wd):∀ c:Comb K,(S m.n fun i=>cv m c i * bw m v i) = cwt m c v
 | []=>by
  show (S m.n fun i=>0 * bw m v i) = 0
  exact S_zero' fun i _=>by grind
 | p :: r=>by
  show (S m.n fun i=>(p.1 * fw m p.2 i + cv m r i) * bw m v i) = p.1 * wt m (p.2 ++ v) + cwt m r v
  rw [← cv_bw m v r,← fw_bw,← S_mul,← S_add]
  refine S_congr fun i _=>?_
  grind
theorem cv_append (m:LM K) (j:Nat):∀ (c d:Comb K),cv m (c ++ d) j = cv m c j + cv m d j
 | [],d=>by show cv m d j = 0 + cv m d j; grind
 | p :: r,d=>by
  show p.1 * fw m p.2 j + cv m (r ++ d) j = p.1 * fw m p.2 j + cv m r j + cv m d j
  rw [cv_append m j r d]; grind
noncomputable def cscale (x:K) (c:Comb K):Comb K:=c.map fun p=>(x * p.1,p.2)
theorem cv_scale (m:LM K) (x:K) (j:Nat):∀ (c:Comb K),cv m (cscale x c) j = x * cv m c j
 | []=>by show (0:K) = x * 0; grind
 | p :: r=>by
  show x * p.1 * fw m p.2 j + cv m (cscale x r) j = x * (p.1 * fw m p.2 j + cv m r j)
  rw [cv_scale m x j r]; grind
theorem clets_scale {k:Nat} {x:K} {c:Comb K} (h:clets k c):clets k (cscale x c):=by
 intro p hp
 obtain ⟨q,hq,e⟩:=List.mem_map.1 hp
 subst e
 exact h q hq
theorem cwt_congr {m q:LM K} {k:Nat} (h:∀ w,lets k w → wt m w = wt q w) {v:Wd} (hv:lets k v):∀ {c:Comb K},clets k c → cwt m c v = cwt q c v
 | [],_=>rfl
 | p :: r,hc=>by
  have hc:=clets_cons.1 hc
  show p.1 * wt m (p.2 ++ v) + cwt m r v = p.1 * wt q (p.2 ++ v) + cwt q r v
  rw [cwt_congr h hv hc.2,h _ (lets_append.2 ⟨hc.1,hv⟩)]
noncomputable def Reach (k:Nat) (m:LM K):Prop:=∀ i,i < m.n → ∃ c:Comb K,clets k c ∧ ∀ j,j < m.n → cv m c j = if j = i then 1 else 0
noncomputable def Obs (k:Nat) (m:LM K):Prop:=∀ c:Nat → K,(∀ w,lets k w → (S m.n fun i=>c i * bw m w i) = 0) → ∀ i,i < m.n → c i = 0
noncomputable def Min (k:Nat) (m:LM K):Prop:=∀ q:LM K,(∀ w,lets k w → wt m w = wt q w) → m.n ≤ q.n
theorem dep [IsFld K]:∀ (d n:Nat) (B:Nat → Nat → K),d < n → ∃ c:Nat → K,(∃ i,i < n ∧ c i ≠ 0) ∧ ∀ j,j < d → (S n fun i=>c i * B i j) = 0
 | 0,n,_,h=>⟨fun _=>1,⟨0,h,IsFld.one_ne⟩,fun j hj=>absurd hj (by omega)⟩
 | d + 1,0,_,h=>absurd h (by omega)
 | d + 1,n + 1,B,h=>by
  by_cases hp:∃ p,p < d + 1 ∧ B 0 p ≠ 0
  ·obtain ⟨p,hpd,hp⟩:=hp
   obtain ⟨b,hb⟩:=IsFld.inv _ hp
   obtain ⟨c,⟨i0,hi0,hne⟩,hc⟩:=dep d n (fun i j=>B (i + 1) (if j < p then j else j + 1) - B (i + 1) p * b * B 0 (if j < p then j else j + 1)) (by omega)
   refine ⟨fun i=>match i with | 0=>- S n (fun i=>c i * B (i + 1) p * b) | i + 1=>c i,⟨i0 + 1,by omega,hne⟩,?_⟩
   intro j hj
   rw [S_shift]
   show - S n (fun i=>c i * B (i + 1) p * b) * B 0 j + (S n fun i=>c i * B (i + 1) j) = 0
   have e1:(S n fun i=>c i * (B (i + 1) j - B (i + 1) p * b * B 0 j)) = 0:=by
    by_cases hjp:j = p
    ·subst hjp
     refine S_zero' fun i _=>?_
     have:B 0 j * b = 1:=hb
     grind
    ·by_cases hlt:j < p
     ·have:=hc j (by omega)
      simp only [hlt,if_true] at this
      exact this
     ·have:=hc (j - 1) (by omega)
      have h1:¬ j - 1 < p:=by omega
      have h2:j - 1 + 1 = j:=by omega
      simp only [h1,if_false,h2] at this
      exact this
   have e2:(S n fun i=>c i * (B (i + 1) j - B (i + 1) p * b * B 0 j)) = (S n fun i=>c i * B (i + 1) j) + (S n fun i=>(c i * B (i + 1) p * b) * (- B 0 j)):=by
    rw [← S_add]
    refine S_congr fun i _=>?_
    grind
   rw [S_mulr] at e2
   grind
  ·refine ⟨fun i=>if i = 0 then 1 else 0,⟨0,by omega,by simpa using IsFld.one_ne⟩,?_⟩
   intro j hj
   have:B 0 j = 0:=Classical.byContradiction fun hx=>hp ⟨j,hj,hx⟩
   refine S_zero' fun i _=>?_
   by_cases hi:i = 0
   ·subst hi; simp [this]; grind
   ·simp [hi]; grind
theorem cv_S (m:LM K) (k:Nat):∀ (n:Nat) (c:Nat → K) (cs:Nat → Comb K),(∀ i,i < n → clets k (cs i)) →
  ∃ d:Comb K,clets k d ∧ ∀ (q:LM K) (j:Nat),cv q d j = S n fun i=>c i * cv q (cs i) j
 | 0,_,_,_=>⟨[],clets_nil k,fun _ _=>rfl⟩
 | n + 1,c,cs,h=>by
  obtain ⟨d,hd,e⟩:=cv_S m k n c cs fun i hi=>h i (by omega)
  refine ⟨d ++ cscale (c n) (cs n),clets_append.2 ⟨hd,clets_scale (h n (by omega))⟩,fun q j=>?_⟩
  rw [cv_append,e,cv_scale]
  rfl
theorem minimal [IsFld K] {k:Nat} {o:LM K} (hr:Reach k o) (hob:Obs k o):Min k o:=by
 intro q same
 refine Classical.byContradiction fun hlt=>?_
 have hlt:q.n < o.n:=by omega
 have hch:∃ cs:Nat → Comb K,∀ i,i < o.n → clets k (cs i) ∧ ∀ j,j < o.n → cv o (cs i) j = if j = i then 1 else 0:=by
  refine ⟨fun i=>if h:i < o.n then Classical.choose (hr i h) else [],fun i hi=>?_⟩
  have:=Classical.choose_spec (hr i hi)
  simp only [hi,dif_pos]
  exact this
 obtain ⟨cs,hcs⟩:=hch
 obtain ⟨c,⟨i0,hi0,hne⟩,hc⟩:=dep q.n o.n (fun i j=>cv q (cs i) j) hlt
 obtain ⟨d,hd,hde⟩:=cv_S o k o.n c cs fun i hi=>(hcs i hi).1
 refine hne (hob c (fun w hw=>?_) i0 hi0)
 have e1:(S o.n fun i=>cv o d i * bw o w i) = S o.n fun i=>c i * bw o w i:=by
  refine S_congr fun j hj=>?_
  rw [hde]
  have:(S o.n fun i=>c i * cv o (cs i) j) = S o.n fun i=>if i = j then c i else 0:=by
   refine S_congr fun i hi=>?_
   rw [(hcs i hi).2 j hj]
   by_cases h:i = j
   ·subst h; simp; grind
   ·have:¬ j = i:=fun x=>h x.symm
    simp [h,this]; grind
  rw [this,S_delta]
  simp [hj]
 have e2:(S q.n fun i=>cv q d i * bw q w i) = 0:=by
  refine S_zero' fun j hj=>?_
  rw [hde,hc j hj]; grind
 rw [cv_bw] at e1 e2
 rw [← e1,cwt_congr same hw hd,e2]
structure Red (k:Nat) (m m':LM K) (R:Nat → Nat → K):Prop where
 first:∀ j,j < m.n → (S m'.n fun i=>m'.f i * R i j) = m.f j
 last:∀ i,i < m'.n → m'.l i = S m.n fun j=>R i j * m.l j
 hand:∀ a,a < k → ∀ i,i < m'.n → ∀ j,j < m.n → (S m'.n fun s=>m'.h a i s * R s j) = S m.n fun t=>R i t * m.h a t j
theorem Red.bw {k:Nat} {m m':LM K} {R:Nat → Nat → K} (r:Red k m m' R):∀ {w:Wd},lets k w → ∀ i,i < m'.n → bw m' w i = S m.n fun j=>R i j * bw m w j
 | [],_,i,hi=>r.last i hi
 | a :: w,hw,i,hi=>by
  have hw:=lets_cons.1 hw
  show (S m'.n fun j=>m'.h a i j * Wm.bw m' w j) = S m.n fun j=>R i j * S m.n fun t=>m.h a j t * Wm.bw m w t
  have e:(S m'.n fun j=>m'.h a i j * Wm.bw m' w j) = S m'.n fun j=>S m.n fun t=>m'.h a i j * (R j t * Wm.bw m w t):=by
   refine S_congr fun j hj=>?_
   rw [Red.bw r hw.2 j hj,S_mul]
  rw [e,S_swap]
  have e2:(S m.n fun t=>S m'.n fun j=>m'.h a i j * (R j t * Wm.bw m w t)) = S m.n fun t=>S m.n fun j=>R i j * (m.h a j t * Wm.bw m w t):=by
   refine S_congr fun t ht=>?_
   have:(S m'.n fun j=>m'.h a i j * (R j t * Wm.bw m w t)) = S m'.n fun j=>(m'.h a i j * R j t) * Wm.bw m w t:=S_congr fun j _=>by grind
   rw [this,S_mulr,r.hand a hw.1 i hi t ht,← S_mulr]
   exact S_congr fun j _=>by grind
  rw [e2,S_swap]
  refine S_congr fun j _=>?_
  rw [S_mul]
theorem Red.wt {k:Nat} {m m':LM K} {R:Nat → Nat → K} (r:Red k m m' R) {w:Wd} (hw:lets k w):wt m' w = wt m w:=by
 show (S m'.n fun i=>m'.f i * Wm.bw m' w i) = S m.n fun j=>m.f j * Wm.bw m w j
 have e:(S m'.n fun i=>m'.f i * Wm.bw m' w i) = S m'.n fun i=>S m.n fun j=>m'.f i * R i j * Wm.bw m w j:=by
  refine S_congr fun i hi=>?_
  rw [r.bw hw i hi,← S_mul]
  exact S_congr fun j _=>by grind
 rw [e,S_swap]
 refine S_congr fun j hj=>?_
 rw [S_mulr,r.first j hj]
theorem Red.fold {k:Nat} {m m':LM K} {R:Nat → Nat → K} (r:Red k m m' R):∀ {w:Wd},lets k w → ∀ (x y:Nat → K),(∀ j,j < m.n → (S m'.n fun i=>x i * R i j) = y j) →
  ∀ j,j < m.n → (S m'.n fun i=>(w.foldl (fstep m') x) i * R i j) = (w.foldl (fstep m) y) j
 | [],_,_,_,h,j,hj=>h j hj
 | a :: w,hw,x,y,h,j,hj=>by
  have hw:=lets_cons.1 hw
  rw [List.foldl_cons,List.foldl_cons]
  refine Red.fold r hw.2 _ _ (fun j hj=>?_) j hj
  show (S m'.n fun i=>(S m'.n fun t=>x t * m'.h a t i) * R i j) = S m.n fun i=>y i * m.h a i j
  have e:(S m'.n fun i=>(S m'.n fun t=>x t * m'.h a t i) * R i j) = S m'.n fun i=>S m'.n fun t=>x t * (m'.h a t i * R i j):=by
   refine S_congr fun i _=>?_
   rw [← S_mulr]
   exact S_congr fun t _=>by grind
  rw [e,S_swap]
  have e2:(S m'.n fun t=>S m'.n fun i=>x t * (m'.h a t i * R i j)) = S m'.n fun t=>S m.n fun i=>x t * R t i * m.h a i j:=by
   refine S_congr fun t ht=>?_
   rw [S_mul,r.hand a hw.1 t ht j hj,← S_mul]
   exact S_congr fun i _=>by grind
  rw [e2,S_swap]
  refine S_congr fun i hi=>?_
  rw [S_mulr,h i hi]
theorem Red.fw {k:Nat} {m m':LM K} {R:Nat → Nat → K} (r:Red k m m' R) {w:Wd} (hw:lets k w) (j:Nat) (hj:j < m.n) :
  (S m'.n fun i=>fw m' w i * R i j) = Wm.fw m w j:=r.fold hw _ _ r.first j hj
theorem Red.cv {k:Nat} {m m':LM K} {R:Nat → Nat → K} (r:Red k m m' R) (j:Nat) (hj:j < m.n):∀ {c:Comb K},clets k c →
  (S m'.n fun i=>cv m' c i * R i j) = Wm.cv m c j
 | [],_=>S_zero' fun i _=>by show 0 * R i j = 0; grind
 | p :: c,hc=>by
  have hc:=clets_cons.1 hc
  show (S m'.n fun i=>(p.1 * Wm.fw m' p.2 i + Wm.cv m' c i) * R i j) = p.1 * Wm.fw m p.2 j + Wm.cv m c j
  rw [← Red.cv r j hj hc.2,← r.fw hc.1 j hj,← S_mul,← S_add]
  exact S_congr fun i _=>by grind
noncomputable def Indep (r n:Nat) (R:Nat → Nat → K):Prop:=∀ c:Nat → K,(∀ j,j < n → (S r fun i=>c i * R i j) = 0) → ∀ i,i < r → c i = 0
theorem Red.obs {k:Nat} {m m':LM K} {R:Nat → Nat → K} (r:Red k m m' R) (hi:Indep m'.n m.n R) (ho:Obs k m):Obs k m':=by
 intro c hc
 refine hi c ?_
 refine ho (fun j=>S m'.n fun i=>c i * R i j) fun w hw=>?_
 rw [← hc w hw]
 show (S m.n fun j=>(S m'.n fun i=>c i * R i j) * Wm.bw m w j) = _
 have e:(S m.n fun j=>(S m'.n fun i=>c i * R i j) * Wm.bw m w j) = S m.n fun j=>S m'.n fun i=>c i * (R i j * Wm.bw m w j):=by
  refine S_congr fun j _=>?_
  rw [← S_mulr]
  exact S_congr fun i _=>by grind
 rw [e,S_swap]
 refine S_congr fun i hi=>?_
 rw [S_mul,r.bw hw i hi]
theorem Red.reach {k:Nat} {m m':LM K} {R:Nat → Nat → K} (r:Red k m m' R) (hi:Indep m'.n m.n R)
  (hc:∀ i,i < m'.n → ∃ c:Comb K,clets k c ∧ ∀ j,j < m.n → Wm.cv m c j = R i j):Reach k m':=by
 intro i hin
 obtain ⟨c,hl,e⟩:=hc i hin
 refine ⟨c,hl,?_⟩
 have:=hi (fun s=>Wm.cv m' c s - if s = i then 1 else 0) ?_
 ·intro j hj
  have:=this j hj
  grind
 intro j hj
 have e1:(S m'.n fun s=>(Wm.cv m' c s - if s = i then 1 else 0) * R s j) = (S m'.n fun s=>Wm.cv m' c s * R s j) + S m'.n fun s=>if s = i then - R s j else 0:=by
  rw [← S_add]
  refine S_congr fun s _=>?_
  by_cases h:s = i
  ·simp [h]; grind
  ·simp [h]; grind
 rw [e1,r.cv j hj hl,S_delta,e j hj]
 simp [hin]; grind
noncomputable def tr (m:LM K):LM K:=⟨m.n,m.l,m.f,fun a i j=>m.h a j i⟩
theorem bw_tr (m:LM K):∀ (w:Wd) ,bw (tr m) w = fw m w.reverse
 | []=>rfl
 | a :: w=>by
  rw [List.reverse_cons,fw_snoc,← bw_tr m w]
  funext i
  show (S m.n fun j=>m.h a j i * bw (tr m) w j) = S m.n fun j=>bw (tr m) w j * m.h a j i
  exact S_congr fun j _=>by grind
theorem wt_tr (m:LM K) (w:Wd):wt (tr m) w = wt m w.reverse:=by
 rw [wt_fw m,← bw_tr]
 show (S m.n fun i=>m.l i * bw (tr m) w i) = _
 exact S_congr fun j _=>by grind
theorem reach_tr {k:Nat} {m:LM K} (h:Reach k m):Obs k (tr m):=by
 intro c hc i hi
 obtain ⟨d,hd,e⟩:=h i hi
 have e1:∀ {d:Comb K},clets k d → (S m.n fun j=>c j * cv m d j) = 0:=by
  intro d
  induction d with
  | nil=>intro _; exact S_zero' fun i _=>by show c i * 0 = 0; grind
  | cons p r ih =>
   intro hd
   have hd:=clets_cons.1 hd
   show (S m.n fun j=>c j * (p.1 * fw m p.2 j + cv m r j)) = 0
   have h2:=hc p.2.reverse (lets_reverse.2 hd.1)
   rw [bw_tr,List.reverse_reverse] at h2
   have h2:(S m.n fun i=>c i * fw m p.2 i) = 0:=h2
   have e3:(S m.n fun j=>c j * (p.1 * fw m p.2 j + cv m r j)) = p.1 * (S m.n fun i=>c i * fw m p.2 i) + S m.n fun j=>c j * cv m r j:=by
    rw [← S_mul,← S_add]
    exact S_congr fun j _=>by grind
   rw [e3,h2,ih hd.2]; grind
 have e2:=e1 hd
 have e3:(S m.n fun j=>c j * cv m d j) = S m.n fun j=>if j = i then c j else 0:=by
  refine S_congr fun j hj=>?_
  rw [e j hj]
  by_cases h:j = i
  ·simp [h]; grind
  ·simp [h]; grind
 rw [e3,S_delta] at e2
 have hi:i < m.n:=hi
 simpa [hi] using e2
theorem min_tr {k:Nat} {m:LM K} (h:Min k m):Min k (tr m):=by
 intro q hq
 refine h (tr q) fun w hw=>?_
 have:=hq w.reverse (lets_reverse.2 hw)
 rw [wt_tr,List.reverse_reverse] at this
 rw [this,wt_tr]
end
end Wm
namespace Wm
open Lean.Grind (CommRing)
theorem small_div:((List.range 216).all fun a=>(List.range 216).all fun b=>decide (a * 216 + b < 2) || (2147483647 % (a * 216 + b) != 0)) = true:=by decide +kernel
theorem no_small {d:Nat} (h2:2 ≤ d) (hd:d < 46656):2147483647 % d ≠ 0:=by
 have h:=List.all_eq_true.1 small_div (d / 216) (List.mem_range.2 (by omega))
 have h:=List.all_eq_true.1 h (d % 216) (List.mem_range.2 (by omega))
 have e:d / 216 * 216 + d % 216 = d:=by omega
 rw [e] at h
 have:¬ d < 2:=by omega
 simpa [this] using h
theorem no_div {d:Nat} (h2:2 ≤ d) (hd:d < 2147483647):¬ d ∣ 2147483647:=by
 rintro ⟨e,he⟩
 by_cases hs:d < 46656
 ·exact no_small h2 hs (by rw [he]; exact Nat.mul_mod_right d e)
 ·have h1:e < 46656:=by
   refine Classical.byContradiction fun hx=>?_
   have:46656 * 46656 ≤ d * e:=Nat.mul_le_mul (by omega) (by omega)
   omega
  have h3:2 ≤ e:=by
   refine Classical.byContradiction fun hx=>?_
   have:e = 0 ∨ e = 1:=by omega
   rcases this with x | x <;> subst x <;> omega
  exact no_small h3 h1 (by rw [he]; exact Nat.mul_mod_left d e)
theorem prime_mul {a b:Nat} (h:2147483647 ∣ a * b):2147483647 ∣ a ∨ 2147483647 ∣ b:=by
 by_cases ha:2147483647 ∣ a
 ·exact Or.inl ha
 ·refine Or.inr (Nat.Coprime.dvd_of_dvd_mul_left (m:=a) ?_ h)
  show Nat.gcd 2147483647 a = 1
  have hg:=Nat.gcd_dvd_left 2147483647 a
  have hp:0 < Nat.gcd 2147483647 a:=Nat.gcd_pos_of_pos_left _ (by omega)
  have hle:=Nat.le_of_dvd (by omega) hg
  by_cases h1:Nat.gcd 2147483647 a = 1
  ·exact h1
  ·by_cases h2:Nat.gcd 2147483647 a = 2147483647
   ·exact absurd (h2 ▸ Nat.gcd_dvd_right 2147483647 a) ha
   ·exact absurd hg (no_div (by omega) (by omega))
theorem perm_of {α:Type} [DecidableEq α]:∀ (l r:List α),l.Nodup → (∀ x,x ∈ l → x ∈ r) → r.length ≤ l.length → l.Perm r
 | [],r,_,_,h=>by
  have:r = []:=List.length_eq_zero_iff.1 (by simpa using h)
  rw [this]
 | a :: l,r,hn,hs,h=>by
  have ha:a ∈ r:=hs a (List.mem_cons_self ..)
  have hp:=List.perm_cons_erase ha
  have hn:=List.nodup_cons.1 hn
  refine List.Perm.trans (List.Perm.cons a (perm_of l (r.erase a) hn.2 (fun x hx=>?_) ?_)) hp.symm
  ·have hne:x ≠ a:=fun e=>hn.1 (e ▸ hx)
   exact (List.mem_erase_of_ne hne).2 (hs x (List.mem_cons_of_mem _ hx))
  ·have:=hp.length_eq
   simp only [List.length_cons] at this h
   omega
noncomputable def prod:List Nat → Nat
 | []=>1
 | a :: l=>a * prod l
theorem prod_perm {l r:List Nat} (h:l.Perm r):prod l = prod r:=by
 induction h with
 | nil=>rfl
 | cons x _ ih=>show x * _ = x * _; rw [ih]
 | swap x y l=>show y * (x * prod l) = x * (y * prod l); rw [← Nat.mul_assoc,← Nat.mul_assoc,Nat.mul_comm y x]
 | trans _ _ h1 h2=>rw [h1,h2]
theorem prod_scale (p a:Nat):∀ l:List Nat,prod (l.map fun x=>a * x % p) % p = a ^ l.length * prod l % p
 | []=>by simp [prod]
 | x :: l=>by
  show (a * x % p) * prod (l.map fun x=>a * x % p) % p = a ^ (l.length + 1) * (x * prod l) % p
  rw [Nat.mul_mod,Nat.mod_mod,prod_scale p a l,← Nat.mul_mod,Nat.pow_succ]
  congr 1
  ac_rfl
theorem prod_not_dvd {p:Nat} (h1:1 < p) (hp:∀ a b,p ∣ a * b → p ∣ a ∨ p ∣ b):∀ l:List Nat,(∀ x,x ∈ l → ¬ p ∣ x) → ¬ p ∣ prod l
 | [],_,h=>by
  have:p ≤ 1:=Nat.le_of_dvd (by decide) h
  omega
 | x :: l,hl,h=>by
  rcases hp _ _ h with h | h
  ·exact hl x (List.mem_cons_self ..) h
  ·exact prod_not_dvd h1 hp l (fun y hy=>hl y (List.mem_cons_of_mem _ hy)) h
theorem fermat {p:Nat} (h1:1 < p) (hp:∀ a b,p ∣ a * b → p ∣ a ∨ p ∣ b) {a:Nat} (ha:¬ p ∣ a):a ^ (p - 1) % p = 1:=by
 have hl:∀ x,x ∈ (List.range (p - 1)).map (· + 1) ↔ 0 < x ∧ x < p:=by
  intro x
  simp only [List.mem_map,List.mem_range]
  constructor
  ·rintro ⟨y,hy,e⟩; omega
  ·intro h; exact ⟨x - 1,by omega,by omega⟩
 have hnd:∀ x,0 < x ∧ x < p → ¬ p ∣ x:=by
  intro x hx hd
  have:=Nat.le_of_dvd hx.1 hd
  omega
 have hperm:(((List.range (p - 1)).map (· + 1)).map fun x=>a * x % p).Perm ((List.range (p - 1)).map (· + 1)):=by
  refine perm_of _ _ ?_ ?_ (by simp)
  ·rw [List.nodup_iff_pairwise_ne,List.pairwise_map]
   have hnr:((List.range (p - 1)).map (· + 1)).Pairwise (· < ·):=by
    rw [List.pairwise_map]
    exact List.Pairwise.imp (fun h=>by omega) List.pairwise_lt_range
   refine List.Pairwise.imp_of_mem ?_ hnr
   intro x y hx hy hlt e
   have hx:=(hl x).1 hx
   have hy:=(hl y).1 hy
   have hd:p ∣ a * y - a * x:=Nat.dvd_of_mod_eq_zero (Nat.sub_mod_eq_zero_of_mod_eq e.symm)
   rw [← Nat.mul_sub] at hd
   rcases hp _ _ hd with h | h
   ·exact ha h
   ·exact hnd (y - x) (by omega) h
  ·intro x hx
   obtain ⟨y,hy,e⟩:=List.mem_map.1 hx
   subst e
   refine (hl _).2 ⟨?_,Nat.mod_lt _ (by omega)⟩
   refine Nat.pos_of_ne_zero fun h0=>?_
   rcases hp _ _ (Nat.dvd_of_mod_eq_zero h0) with h | h
   ·exact ha h
   ·exact hnd y ((hl y).1 hy) h
 have e:=prod_scale p a ((List.range (p - 1)).map (· + 1))
 rw [prod_perm hperm] at e
 simp only [List.length_map,List.length_range] at e
 have hq:=prod_not_dvd h1 hp ((List.range (p - 1)).map (· + 1)) fun x hx=>hnd x ((hl x).1 hx)
 have hd:p ∣ a ^ (p - 1) * prod ((List.range (p - 1)).map (· + 1)) - prod ((List.range (p - 1)).map (· + 1)) :=
  Nat.dvd_of_mod_eq_zero (Nat.sub_mod_eq_zero_of_mod_eq e.symm)
 have e2:a ^ (p - 1) * prod ((List.range (p - 1)).map (· + 1)) - prod ((List.range (p - 1)).map (· + 1)) = (a ^ (p - 1) - 1) * prod ((List.range (p - 1)).map (· + 1)):=by
  rw [Nat.sub_mul,Nat.one_mul]
 rw [e2] at hd
 rcases hp _ _ hd with h | h
 ·obtain ⟨c,hc⟩:=h
  have hpos:0 < a ^ (p - 1):=Nat.pow_pos (Nat.pos_of_ne_zero fun h0=>ha (h0 ▸ Nat.dvd_zero p))
  have:a ^ (p - 1) = 1 + p * c:=by omega
  rw [this,Nat.add_mul_mod_self_left,Nat.mod_eq_of_lt h1]
 ·exact absurd h hq
theorem power_eq (a:Nat):∀ (f e:Nat),e < 2 ^ f → Rc64.power a f e = a ^ e % Rc64.P
 | 0,e,h=>by
  have:e = 0:=by simpa using h
  subst this; rfl
 | f + 1,e,h=>by
  show (if e = 0 then 1 else _) = _
  by_cases h0:e = 0
  ·subst h0; rfl
  ·rw [if_neg h0]
   have ih:=power_eq a f (e / 2) (by rw [Nat.pow_succ] at h; omega)
   rw [ih]
   have hsq:((a ^ (e / 2) % Rc64.P) * (a ^ (e / 2) % Rc64.P)) % Rc64.P = a ^ (2 * (e / 2)) % Rc64.P:=by
    rw [← Nat.mul_mod,← Nat.pow_add,Nat.two_mul]
   simp only
   by_cases hodd:e % 2 = 1
   ·rw [if_pos hodd,hsq,Nat.mod_mul_mod,← Nat.pow_succ]
    congr 2
    omega
   ·rw [if_neg hodd,hsq]
    congr 2
    omega
theorem P_eq:Rc64.P = 2147483647:=rfl
theorem P_pos:0 < Rc64.P:=by rw [P_eq]; decide
theorem P_prime {a b:Nat} (h:Rc64.P ∣ a * b):Rc64.P ∣ a ∨ Rc64.P ∣ b:=prime_mul h
theorem inverse_mul {a:Nat} (h:a % Rc64.P ≠ 0):a * Rc64.inverse a % Rc64.P = 1:=by
 have hnd:¬ Rc64.P ∣ a % Rc64.P:=fun hd=>by
  have:=Nat.le_of_dvd (Nat.pos_of_ne_zero h) hd
  have:=Nat.mod_lt a P_pos
  omega
 have hf:=fermat (p:=Rc64.P) (by rw [P_eq]; decide) (fun _ _=>P_prime) hnd
 show a * Rc64.power (a % Rc64.P) 32 (Rc64.P - 2) % Rc64.P = 1
 rw [power_eq _ _ _ (by rw [P_eq]; decide)]
 have:a * ((a % Rc64.P) ^ (Rc64.P - 2) % Rc64.P) % Rc64.P = (a % Rc64.P) ^ (Rc64.P - 1) % Rc64.P:=by
  have e:Rc64.P - 1 = (Rc64.P - 2) + 1:=by rw [P_eq]
  rw [e,Nat.pow_succ,Nat.mul_mod_mod,Nat.mul_comm,Nat.mul_mod]
  conv=>rhs; rw [Nat.mul_mod,Nat.mod_mod]
 rw [this,hf]
noncomputable def Kp:Type:=Fin Rc64.P
noncomputable instance:NeZero Rc64.P:=⟨Nat.ne_of_gt P_pos⟩
noncomputable instance kpRing:CommRing Kp:=inferInstanceAs (CommRing (Fin Rc64.P))
noncomputable instance kpDec:DecidableEq Kp:=inferInstanceAs (DecidableEq (Fin Rc64.P))
noncomputable def toK (x:Nat):Kp:=(Fin.ofNat Rc64.P x:Fin Rc64.P)
noncomputable def ofK (x:Kp):Nat:=(x:Fin Rc64.P).val
theorem toK_ofK (x:Kp):toK (ofK x) = x:=Fin.ext (Nat.mod_eq_of_lt (Fin.isLt (x:Fin Rc64.P)))
theorem toK_eq {x y:Nat}:toK x = toK y ↔ x % Rc64.P = y % Rc64.P :=
 ⟨fun h=>congrArg ofK h,fun h=>Fin.ext h⟩
theorem toK_mod (x:Nat):toK (x % Rc64.P) = toK x:=toK_eq.2 (Nat.mod_mod ..)
theorem toK_inj {x y:Nat} (hx:x < Rc64.P) (hy:y < Rc64.P) (h:toK x = toK y):x = y:=by
 have:=toK_eq.1 h
 rwa [Nat.mod_eq_of_lt hx,Nat.mod_eq_of_lt hy] at this
theorem toK_add (x y:Nat):toK (x + y) = toK x + toK y:=Fin.ext (Nat.add_mod ..)
theorem toK_mul (x y:Nat):toK (x * y) = toK x * toK y:=Fin.ext (Nat.mul_mod ..)
theorem toK_zero:toK 0 = 0:=by
 refine Fin.ext ?_
 rfl
theorem toK_one:toK 1 = 1:=by
 refine Fin.ext ?_
 rfl
theorem toK_ne_zero {x:Nat} (hx:x < Rc64.P) (h:x ≠ 0):toK x ≠ 0:=by
 rw [← toK_zero]
 exact fun e=>h (toK_inj hx P_pos e)
theorem toK_P:toK Rc64.P = 0:=by rw [← toK_zero,toK_eq]; simp
theorem toK_neg {c:Nat} (h:c ≤ Rc64.P):toK (Rc64.P - c) = - toK c:=by
 have e:toK (Rc64.P - c) + toK c = 0:=by
  rw [← toK_add,Nat.sub_add_cancel h,toK_P]
 grind
theorem toK_inverse {x:Nat} (h:toK x ≠ 0):toK x * toK (Rc64.inverse x) = 1:=by
 rw [← toK_mul,← toK_one,toK_eq,inverse_mul]
 ·rw [Nat.mod_eq_of_lt (by rw [P_eq]; decide)]
 ·intro h0
  refine h ?_
  rw [← toK_zero,toK_eq,h0]
  rfl
noncomputable instance kpFld:IsFld Kp where
 one_ne:=by
  rw [← toK_one]
  exact toK_ne_zero (by rw [P_eq]; decide) (by decide)
 inv:=fun a ha=>by
  refine ⟨toK (Rc64.inverse (ofK a)),?_⟩
  have:=toK_inverse (x:=ofK a) (by rw [toK_ofK]; exact ha)
  rwa [toK_ofK] at this
end Wm
namespace Wm
open Lean.Grind (CommRing)
open Rc64 (Machine P made right)
noncomputable def vk (v:List Nat):Nat → Kp:=fun i=>toK (v.getD i 0)
noncomputable def below (v:List Nat):Prop:=∀ x,x ∈ v → x < P
theorem getD_lt {α:Type} {l:List α} {i:Nat} {d:α} (h:i < l.length):l.getD i d = l[i]:=by
 simp [List.getD,h]
theorem getD_ge {α:Type} {l:List α} {i:Nat} {d:α} (h:l.length ≤ i):l.getD i d = d:=by
 simp [List.getD,h]
theorem below_nil:below []:=fun _ h=>by cases h
theorem below_cons {x:Nat} {v:List Nat}:below (x :: v) ↔ x < P ∧ below v:=by simp [below]
theorem below_append {u v:List Nat}:below (u ++ v) ↔ below u ∧ below v:=by
 simp only [below,List.mem_append,or_imp,forall_and]
theorem below_getD {v:List Nat} (h:below v) (i:Nat):v.getD i 0 < P:=by
 by_cases hi:i < v.length
 ·rw [getD_lt hi]
  exact h _ (List.getElem_mem hi)
 ·rw [getD_ge (by omega)]
  exact P_pos
theorem below_replicate (n:Nat):below (List.replicate n 0):=by
 intro x hx
 rw [(List.mem_replicate.1 hx).2]
 exact P_pos
theorem below_zipWith_mod (g:Nat → Nat → Nat):∀ (u v:List Nat),below (List.zipWith (fun a b=>g a b % P) u v)
 | [],_=>by simpa using below_nil
 | _ :: _,[]=>by simpa using below_nil
 | a :: u,b :: v=>by
  rw [List.zipWith_cons_cons]
  exact below_cons.2 ⟨Nat.mod_lt _ P_pos,below_zipWith_mod g u v⟩
theorem below_map_mod {α:Type} (g:α → Nat) (u:List α):below (u.map fun a=>g a % P):=by
 intro x hx
 obtain ⟨y,_,e⟩:=List.mem_map.1 hx
 rw [← e]
 exact Nat.mod_lt _ P_pos
theorem vk_ext {u v:List Nat} (hl:u.length = v.length) (hu:below u) (hv:below v) (h:∀ j,j < u.length → vk u j = vk v j):u = v:=by
 refine List.ext_getElem hl fun i h1 h2=>?_
 have:=h i h1
 have e:=toK_inj (below_getD hu i) (below_getD hv i) this
 rwa [getD_lt h1,getD_lt h2] at e
theorem getD_zipWith (g:Nat → Nat → Nat):∀ (u v:List Nat) (i:Nat),i < u.length → i < v.length → (List.zipWith g u v).getD i 0 = g (u.getD i 0) (v.getD i 0)
 | [],_,_,h,_=>absurd h (by simp)
 | _ :: _,[],_,_,h=>absurd h (by simp)
 | a :: u,b :: v,0,_,_=>rfl
 | a :: u,b :: v,i + 1,h1,h2=>by
  rw [List.zipWith_cons_cons]
  simpa using getD_zipWith g u v i (by simpa using h1) (by simpa using h2)
theorem toK_sum_range (g:Nat → Nat):∀ n,toK ((List.range n).map g).sum = S n fun i=>toK (g i)
 | 0=>toK_zero
 | n + 1=>by
  rw [List.range_succ,List.map_append,List.sum_append,toK_add,toK_sum_range g n]
  show _ = (S n fun i=>toK (g i)) + toK (g n)
  simp
theorem toK_dot (n:Nat) (v w:Nat → Nat):toK (Rc64.dot n v w) = S n fun i=>toK (v i) * toK (w i):=by
 unfold Rc64.dot
 rw [toK_mod,toK_sum_range]
 exact S_congr fun i _=>toK_mul ..
theorem toK_zipsum:∀ (u v:List Nat),u.length = v.length → toK (List.zipWith (fun a b=>a * b) u v).sum = S u.length fun i=>vk u i * vk v i
 | [],_,_=>toK_zero
 | _ :: _,[],h=>absurd h (by simp)
 | a :: u,b :: v,h=>by
  rw [List.zipWith_cons_cons,List.sum_cons,toK_add,toK_mul,toK_zipsum u v (by simpa using h),List.length_cons,S_shift]
  rfl
theorem toK_dotBy {u v:List Nat} (h:u.length = v.length):toK (Rc64.dotBy u v) = S u.length fun i=>vk u i * vk v i:=by
 unfold Rc64.dotBy
 rw [toK_mod,toK_zipsum u v h]
theorem dotBy_lt (u v:List Nat):Rc64.dotBy u v < P:=Nat.mod_lt _ P_pos
noncomputable def toLM (m:Machine):LM Kp:=⟨m.n,fun i=>toK (m.f i),fun i=>toK (m.l i),fun a i j=>toK (m.on a i j)⟩
structure LEq (k:Nat) (A B:LM Kp):Prop where
 n:A.n = B.n
 f:∀ i,i < A.n → A.f i = B.f i
 l:∀ i,i < A.n → A.l i = B.l i
 h:∀ a,a < k → ∀ i,i < A.n → ∀ j,j < A.n → A.h a i j = B.h a i j
theorem LEq.bw {k:Nat} {A B:LM Kp} (e:LEq k A B):∀ {w:Wd},lets k w → ∀ i,i < A.n → bw A w i = Wm.bw B w i
 | [],_,i,hi=>e.l i hi
 | a :: w,hw,i,hi=>by
  have hw:=lets_cons.1 hw
  show (S A.n fun j=>A.h a i j * Wm.bw A w j) = S B.n fun j=>B.h a i j * Wm.bw B w j
  rw [← e.n]
  exact S_congr fun j hj=>by rw [e.h a hw.1 i hi j hj,LEq.bw e hw.2 j hj]
theorem LEq.wt {k:Nat} {A B:LM Kp} (e:LEq k A B) {w:Wd} (hw:lets k w):wt A w = Wm.wt B w:=by
 show (S A.n fun j=>A.f j * Wm.bw A w j) = S B.n fun j=>B.f j * Wm.bw B w j
 rw [← e.n]
 exact S_congr fun j hj=>by rw [e.f j hj,e.bw hw j hj]
theorem fold_congr (A:LM Kp):∀ (w:Wd) (x y:Nat → Kp),(∀ i,i < A.n → x i = y i) → ∀ i,i < A.n → (w.foldl (fstep A) x) i = (w.foldl (fstep A) y) i
 | [],_,_,h=>h
 | a :: w,x,y,h=>by
  rw [List.foldl_cons,List.foldl_cons]
  refine fold_congr A w _ _ fun j _=>?_
  exact S_congr fun i hi=>by rw [h i hi]
theorem flat_len {α:Type} {g:α → List Nat} {c:Nat}:∀ (l:List α),(∀ x,x ∈ l → (g x).length = c) → (l.flatMap g).length = l.length * c
 | [],_=>by simp
 | x :: l,h=>by
  rw [List.flatMap_cons,List.length_append,h x (List.mem_cons_self ..),flat_len l fun y hy=>h y (List.mem_cons_of_mem _ hy),List.length_cons,Nat.succ_mul]
  omega
theorem flat_get {g:Nat → List Nat} {c:Nat}:∀ (k:Nat),(∀ x,x < k → (g x).length = c) → ∀ a r,a < k → r < c → ((List.range k).flatMap g).getD (a * c + r) 0 = (g a).getD r 0
 | 0,_,_,_,h,_=>absurd h (by omega)
 | k + 1,hg,a,r,ha,hr=>by
  rw [List.range_succ,List.flatMap_append]
  have hlen:((List.range k).flatMap g).length = k * c:=by
   rw [flat_len (c:=c) _ fun x hx=>hg x (by have:=List.mem_range.1 hx; omega),List.length_range]
  by_cases h:a < k
  ·rw [List.getD_eq_getElem?_getD,List.getElem?_append_left,← List.getD_eq_getElem?_getD]
   ·exact flat_get k (fun x hx=>hg x (by omega)) a r h hr
   ·rw [hlen]
    have:(a + 1) * c ≤ k * c:=Nat.mul_le_mul_right c (by omega)
    rw [Nat.succ_mul] at this
    omega
  ·have:a = k:=by omega
   subst this
   rw [List.getD_eq_getElem?_getD,List.getElem?_append_right (by rw [hlen]; omega),hlen]
   have:a * c + r - a * c = r:=by omega
   rw [this,← List.getD_eq_getElem?_getD]
   simp
theorem getD_map_range (g:Nat → Nat) (n i:Nat) (h:i < n):((List.range n).map g).getD i 0 = g i:=by
 rw [getD_lt (by simpa using h)]
 simp
section made
variable (n k:Nat) (f l:Nat → Nat) (h:Nat → Nat → Nat → Nat)
theorem made_f (i:Nat) (hi:i < n):(made n k f l h).f i = f i % P:=getD_map_range _ _ _ hi
theorem made_l (i:Nat) (hi:i < n):(made n k f l h).l i = l i % P:=getD_map_range _ _ _ hi
theorem made_on (a i j:Nat) (ha:a < k) (hi:i < n) (hj:j < n):(made n k f l h).on a i j = h a i j % P:=by
 show ((List.range k).flatMap fun a=>(List.range n).flatMap fun i=>(List.range n).map fun j=>h a i j % P).getD ((a * n + i) * n + j) 0 = _
 have hin:∀ a i,((List.range n).map fun j=>h a i j % P).length = n:=fun a i=>by simp
 have hout:∀ a,((List.range n).flatMap fun i=>(List.range n).map fun j=>h a i j % P).length = n * n:=fun a=>by
  rw [flat_len (c:=n) _ fun x _=>hin a x,List.length_range]
 have e:(a * n + i) * n + j = a * (n * n) + (i * n + j):=by
  rw [Nat.add_mul,Nat.mul_assoc,Nat.add_assoc]
 have hlt:i * n + j < n * n:=by
  have:(i + 1) * n ≤ n * n:=Nat.mul_le_mul_right n (by omega)
  rw [Nat.succ_mul] at this
  omega
 rw [e,flat_get k (fun x _=>hout x) a _ ha hlt,flat_get n (fun x _=>hin a x) i j hi hj,getD_map_range _ _ _ hj]
theorem right_made:right (made n k f l h) = true:=by
 have h3:((List.range k).flatMap fun a=>(List.range n).flatMap fun i=>(List.range n).map fun j=>h a i j % P).length = k * n * n:=by
  rw [flat_len (c:=n * n),List.length_range,Nat.mul_assoc]
  intro a _
  rw [flat_len (c:=n),List.length_range]
  intro i _
  simp
 have h4:below ((List.range k).flatMap fun a=>(List.range n).flatMap fun i=>(List.range n).map fun j=>h a i j % P):=by
  intro x hx
  obtain ⟨a,_,hx⟩:=List.mem_flatMap.1 hx
  obtain ⟨i,_,hx⟩:=List.mem_flatMap.1 hx
  obtain ⟨j,_,hx⟩:=List.mem_map.1 hx
  rw [← hx]
  exact Nat.mod_lt _ P_pos
 have h5:below ((made n k f l h).first ++ ((made n k f l h).last ++ (made n k f l h).hands)) :=
  below_append.2 ⟨below_map_mod _ _,below_append.2 ⟨below_map_mod _ _,h4⟩⟩
 unfold right
 rw [Bool.and_eq_true,Bool.and_eq_true,Bool.and_eq_true]
 refine ⟨?_,?_,?_,?_⟩
 ·show ((List.range n).map _).length == n
  simp
 ·show ((List.range n).map _).length == n
  simp
 ·show (List.flatMap _ _).length == k * n * n
  rw [h3]; simp
 ·rw [List.all_eq_true]
  intro x hx
  exact decide_eq_true (h5 x hx)
end made
structure Rt (m:Machine):Prop where
 fl:m.first.length = m.n
 ll:m.last.length = m.n
 hl:m.hands.length = m.k * m.n * m.n
 fb:below m.first
 lb:below m.last
 hb:below m.hands
theorem rt_iff {m:Machine}:right m = true ↔ Rt m:=by
 unfold right
 rw [Bool.and_eq_true,Bool.and_eq_true,Bool.and_eq_true,List.all_eq_true]
 simp only [beq_iff_eq,decide_eq_true_eq]
 constructor
 ·rintro ⟨h1,h2,h3,h4⟩
  have h4:below (m.first ++ (m.last ++ m.hands)):=h4
  have h5:=below_append.1 h4
  have h6:=below_append.1 h5.2
  exact ⟨h1,h2,h3,h5.1,h6.1,h6.2⟩
 ·intro r
  exact ⟨r.fl,r.ll,r.hl,below_append.2 ⟨r.fb,below_append.2 ⟨r.lb,r.hb⟩⟩⟩
theorem rt_made (n k:Nat) (f l:Nat → Nat) (h:Nat → Nat → Nat → Nat):Rt (made n k f l h):=rt_iff.1 (right_made n k f l h)
theorem toLM_made (n k:Nat) (f l:Nat → Nat) (h:Nat → Nat → Nat → Nat):LEq k (toLM (made n k f l h)) ⟨n,fun i=>toK (f i),fun i=>toK (l i),fun a i j=>toK (h a i j)⟩ where
 n:=rfl
 f:=fun i hi=>by
  show toK ((made n k f l h).f i) = toK (f i)
  rw [made_f n k f l h i hi,toK_mod]
 l:=fun i hi=>by
  show toK ((made n k f l h).l i) = toK (l i)
  rw [made_l n k f l h i hi,toK_mod]
 h:=fun a ha i hi j hj=>by
  show toK ((made n k f l h).on a i j) = toK (h a i j)
  rw [made_on n k f l h a i j ha hi hj,toK_mod]
theorem step_len (m:Machine) (v:List Nat) (a:Nat):(Rc64.step m v a).length = m.n:=by simp [Rc64.step]
theorem step_below (m:Machine) (v:List Nat) (a:Nat):below (Rc64.step m v a):=by
 intro x hx
 obtain ⟨j,_,e⟩:=List.mem_map.1 hx
 rw [← e]
 exact Nat.mod_lt _ P_pos
theorem vk_step (m:Machine) (v:List Nat) (a j:Nat) (hj:j < m.n):vk (Rc64.step m v a) j = fstep (toLM m) (vk v) a j:=by
 show toK (((List.range m.n).map _).getD j 0) = _
 rw [getD_map_range _ _ _ hj,toK_dot]
 rfl
theorem vk_fold (m:Machine):∀ (w:Wd) (v:List Nat) (j:Nat),j < m.n → vk (w.foldl (Rc64.step m) v) j = (w.foldl (fstep (toLM m)) (vk v)) j
 | [],_,_,_=>rfl
 | a :: w,v,j,hj=>by
  rw [List.foldl_cons,List.foldl_cons,vk_fold m w _ j hj]
  exact fold_congr (toLM m) w _ _ (fun i hi=>vk_step m v a i hi) j hj
theorem toK_worth (m:Machine) (w:Wd):toK (Rc64.worth m w) = wt (toLM m) w:=by
 show toK (Rc64.dot m.n _ _) = _
 rw [toK_dot,wt_fw]
 exact S_congr fun i hi=>congrArg (· * toK (m.l i)) (vk_fold m w m.first i hi)
theorem worth_lt (m:Machine) (w:Wd):Rc64.worth m w < P:=Nat.mod_lt _ P_pos
theorem worth_eq_iff {m o:Machine} {u w:Wd}:Rc64.worth m u = Rc64.worth o w ↔ wt (toLM m) u = wt (toLM o) w:=by
 rw [← toK_worth,← toK_worth]
 exact ⟨fun h=>by rw [h],fun h=>toK_inj (worth_lt ..) (worth_lt ..) h⟩
theorem rowfold (n:Nat):∀ (v acc hs:List Nat),acc.length = n → v.length * n ≤ hs.length → below acc →
  ∀ r,r = (v.foldl (fun (x:List Nat × List Nat) c=>(List.zipWith (fun y b=>(y + c * b) % P) x.1 (x.2.take n),x.2.drop n)) (acc,hs)).1 →
  r.length = n ∧ below r ∧ ∀ j,j < n → vk r j = vk acc j + S v.length fun i=>vk v i * toK (hs.getD (i * n + j) 0)
 | [],acc,hs,hl,_,hb,r,hr=>by
  have hr:r = acc:=hr
  rw [hr]
  refine ⟨hl,hb,fun j _=>?_⟩
  show vk acc j = vk acc j + 0
  grind
 | c :: v,acc,hs,hl,hh,hb,r,hr=>by
  rw [List.length_cons,Nat.succ_mul] at hh
  rw [List.foldl_cons] at hr
  have hz:(List.zipWith (fun y b=>(y + c * b) % P) acc (hs.take n)).length = n:=by
   rw [List.length_zipWith,List.length_take]; omega
  obtain ⟨h1,h2,h3⟩:=rowfold n v _ (hs.drop n) hz (by rw [List.length_drop]; omega) (below_zipWith_mod (fun y b=>y + c * b) _ _) r hr
  refine ⟨h1,h2,fun j hj=>?_⟩
  rw [h3 j hj,List.length_cons,S_shift]
  have e1:vk (List.zipWith (fun y b=>(y + c * b) % P) acc (hs.take n)) j = vk acc j + toK c * toK (hs.getD j 0):=by
   show toK (List.getD _ _ _) = _
   rw [getD_zipWith _ _ _ _ (by omega) (by rw [List.length_take]; omega),toK_mod,toK_add,toK_mul]
   have:(hs.take n).getD j 0 = hs.getD j 0:=by
    rw [List.getD_eq_getElem?_getD,List.getElem?_take_of_lt hj,← List.getD_eq_getElem?_getD]
   rw [this]
   rfl
  have e2:(S v.length fun i=>vk v i * toK ((hs.drop n).getD (i * n + j) 0)) = S v.length fun i=>vk (c :: v) (i + 1) * toK (hs.getD ((i + 1) * n + j) 0):=by
   refine S_congr fun i _=>?_
   have:(hs.drop n).getD (i * n + j) 0 = hs.getD ((i + 1) * n + j) 0:=by
    rw [List.getD_eq_getElem?_getD,List.getElem?_drop,← List.getD_eq_getElem?_getD]
    congr 1
    rw [Nat.succ_mul]; omega
   rw [this]
   rfl
  rw [e1,e2]
  have e3:vk (c :: v) 0 * toK (hs.getD (0 * n + j) 0) = toK c * toK (hs.getD j 0):=by
   rw [Nat.zero_mul,Nat.zero_add]
   rfl
  rw [e3]
  grind
theorem stepBy_eq {m:Machine} (hm:Rt m) {v:List Nat} (hv:v.length = m.n) {a:Nat} (ha:a < m.k):Rc64.stepBy m v a = Rc64.step m v a:=by
 have hlen:v.length * m.n ≤ (m.hands.drop (a * m.n * m.n)).length:=by
  rw [hv,List.length_drop,hm.hl]
  have:(a + 1) * (m.n * m.n) ≤ m.k * (m.n * m.n):=Nat.mul_le_mul_right _ ha
  rw [Nat.succ_mul] at this
  rw [Nat.mul_assoc,Nat.mul_assoc]
  omega
 obtain ⟨h1,h2,h3⟩:=rowfold m.n v (List.replicate m.n 0) (m.hands.drop (a * m.n * m.n)) (by simp) hlen (below_replicate _) _ rfl
 refine vk_ext (by rw [step_len]; exact h1) h2 (step_below m v a) fun j hj=>?_
 have hj:j < m.n:=by rw [← h1]; exact hj
 rw [vk_step _ _ _ _ hj]
 refine (h3 j hj).trans ?_
 have e0:vk (List.replicate m.n 0) j = 0:=by
  show toK (List.getD _ _ _) = 0
  have:(List.replicate m.n 0).getD j 0 = 0:=by
   rw [getD_lt (by simpa using hj)]; simp
  rw [this,toK_zero]
 rw [e0,hv]
 have e1:(S m.n fun i=>vk v i * toK ((m.hands.drop (a * m.n * m.n)).getD (i * m.n + j) 0)) = fstep (toLM m) (vk v) a j:=by
  refine S_congr fun i _=>?_
  show _ = vk v i * toK (m.hands.getD ((a * m.n + i) * m.n + j) 0)
  have:(m.hands.drop (a * m.n * m.n)).getD (i * m.n + j) 0 = m.hands.getD ((a * m.n + i) * m.n + j) 0:=by
   rw [List.getD_eq_getElem?_getD,List.getElem?_drop,← List.getD_eq_getElem?_getD]
   congr 1
   rw [Nat.add_mul]; omega
  rw [this]
 rw [e1]; grind
theorem fold_len (m:Machine):∀ (w:Wd) (v:List Nat),v.length = m.n → (w.foldl (Rc64.step m) v).length = m.n
 | [],_,h=>h
 | a :: w,v,_=>by rw [List.foldl_cons]; exact fold_len m w _ (step_len ..)
theorem fold_below (m:Machine):∀ (w:Wd) (v:List Nat),below v → below (w.foldl (Rc64.step m) v)
 | [],_,h=>h
 | a :: w,v,_=>by rw [List.foldl_cons]; exact fold_below m w _ (step_below m v a)
theorem foldBy_eq {m:Machine} (hm:Rt m):∀ {w:Wd},lets m.k w → ∀ {v:List Nat},v.length = m.n → w.foldl (Rc64.stepBy m) v = w.foldl (Rc64.step m) v
 | [],_,_,_=>rfl
 | a :: w,hw,v,hv=>by
  have hw:=lets_cons.1 hw
  rw [List.foldl_cons,List.foldl_cons,stepBy_eq hm hv hw.1]
  exact foldBy_eq hm hw.2 (step_len ..)
theorem worthBy_eq {m:Machine} (hm:Rt m) {w:Wd} (hw:lets m.k w):Rc64.worthBy m w = Rc64.worth m w:=by
 refine toK_inj (dotBy_lt ..) (worth_lt ..) ?_
 show toK (Rc64.dotBy (w.foldl (Rc64.stepBy m) m.first) m.last) = toK (Rc64.dot m.n _ _)
 rw [foldBy_eq hm hw hm.fl,toK_dotBy (by rw [fold_len m w _ hm.fl,hm.ll]),toK_dot,fold_len m w _ hm.fl]
 rfl
noncomputable def sameW (k:Nat) (A B:LM Kp):Prop:=∀ w,lets k w → wt A w = wt B w
theorem lm_plus_bw (m o:Machine) {k:Nat} (hk:k ≤ m.k):∀ {w:Wd},lets k w → ∀ i,i < m.n + o.n → bw (toLM (Rc64.plus m o)) w i = if i < m.n then bw (toLM m) w i else bw (toLM o) w (i - m.n)
 | [],_,i,hi=>by
  have e:=(toLM_made (m.n + o.n) m.k (fun i=>if i < m.n then m.f i else o.f (i - m.n)) (fun i=>if i < m.n then m.l i else o.l (i - m.n)) fun a i j =>
   if i < m.n ∧ j < m.n then m.on a i j else if m.n ≤ i ∧ m.n ≤ j then o.on a (i - m.n) (j - m.n) else 0).l i hi
  refine e.trans ?_
  show toK (if i < m.n then m.l i else o.l (i - m.n)) = _
  by_cases h:i < m.n
  ·simp only [h,if_true]; rfl
  ·simp only [h,if_false]; rfl
 | a :: w,hw,i,hi=>by
  have hw:=lets_cons.1 hw
  have hh:=fun j hj=>(toLM_made (m.n + o.n) m.k (fun i=>if i < m.n then m.f i else o.f (i - m.n)) (fun i=>if i < m.n then m.l i else o.l (i - m.n)) fun a i j =>
   if i < m.n ∧ j < m.n then m.on a i j else if m.n ≤ i ∧ m.n ≤ j then o.on a (i - m.n) (j - m.n) else 0).h a (by omega) i hi j hj
  show (S (m.n + o.n) fun j=>(toLM (Rc64.plus m o)).h a i j * bw (toLM (Rc64.plus m o)) w j) = _
  have e:(S (m.n + o.n) fun j=>(toLM (Rc64.plus m o)).h a i j * bw (toLM (Rc64.plus m o)) w j) = S (m.n + o.n) fun j=>toK (if i < m.n ∧ j < m.n then m.on a i j else if m.n ≤ i ∧ m.n ≤ j then o.on a (i - m.n) (j - m.n) else 0) * (if j < m.n then bw (toLM m) w j else bw (toLM o) w (j - m.n)) :=
   S_congr fun j hj=>by
    have:=hh j hj
    rw [lm_plus_bw m o hk hw.2 j hj]
    exact congrArg (· * _) this
  rw [e,S_append]
  by_cases h:i < m.n
  ·have h':¬ m.n ≤ i:=by omega
   have z:(S o.n fun j=>toK (if i < m.n ∧ m.n + j < m.n then m.on a i (m.n + j) else if m.n ≤ i ∧ m.n ≤ m.n + j then o.on a (i - m.n) (m.n + j - m.n) else 0) * (if m.n + j < m.n then bw (toLM m) w (m.n + j) else bw (toLM o) w (m.n + j - m.n))) = 0 :=
    S_zero' fun j _=>by
     have:¬ m.n + j < m.n:=by omega
     simp only [this,and_false,if_false,h',false_and,toK_zero]
     grind
   rw [z]
   simp only [h,if_true]
   have:(S m.n fun j=>toK (if True ∧ j < m.n then m.on a i j else if m.n ≤ i ∧ m.n ≤ j then o.on a (i - m.n) (j - m.n) else 0) * (if j < m.n then bw (toLM m) w j else bw (toLM o) w (j - m.n))) = bw (toLM m) (a :: w) i:=by
    show _ = S m.n fun j=>toK (m.on a i j) * bw (toLM m) w j
    exact S_congr fun j hj=>by simp only [hj,and_true,if_true]
   rw [this]; grind
  ·have h':m.n ≤ i:=by omega
   have z:(S m.n fun j=>toK (if i < m.n ∧ j < m.n then m.on a i j else if m.n ≤ i ∧ m.n ≤ j then o.on a (i - m.n) (j - m.n) else 0) * (if j < m.n then bw (toLM m) w j else bw (toLM o) w (j - m.n))) = 0 :=
    S_zero' fun j hj=>by
     have:¬ m.n ≤ j:=by omega
     simp only [h,this,and_false,if_false,false_and,toK_zero]
     grind
   rw [z]
   simp only [h,if_false]
   have:(S o.n fun j=>toK (if False ∧ m.n + j < m.n then m.on a i (m.n + j) else if m.n ≤ i ∧ m.n ≤ m.n + j then o.on a (i - m.n) (m.n + j - m.n) else 0) * (if m.n + j < m.n then bw (toLM m) w (m.n + j) else bw (toLM o) w (m.n + j - m.n))) = bw (toLM o) (a :: w) (i - m.n):=by
    show _ = S o.n fun j=>toK (o.on a (i - m.n) j) * bw (toLM o) w j
    refine S_congr fun j hj=>?_
    have h1:¬ m.n + j < m.n:=by omega
    have h2:m.n ≤ m.n + j:=by omega
    have h3:m.n + j - m.n = j:=by omega
    simp only [h1,h2,h',h3,and_self,and_false,if_false,if_true]
   rw [this]; grind
theorem wt_plus (m o:Machine) {w:Wd} (hw:lets m.k w):wt (toLM (Rc64.plus m o)) w = wt (toLM m) w + wt (toLM o) w:=by
 have hf:=(toLM_made (m.n + o.n) m.k (fun i=>if i < m.n then m.f i else o.f (i - m.n)) (fun i=>if i < m.n then m.l i else o.l (i - m.n)) fun a i j =>
   if i < m.n ∧ j < m.n then m.on a i j else if m.n ≤ i ∧ m.n ≤ j then o.on a (i - m.n) (j - m.n) else 0).f
 show (S (m.n + o.n) fun i=>(toLM (Rc64.plus m o)).f i * bw (toLM (Rc64.plus m o)) w i) = _
 have e:(S (m.n + o.n) fun i=>(toLM (Rc64.plus m o)).f i * bw (toLM (Rc64.plus m o)) w i) = S (m.n + o.n) fun i=>toK (if i < m.n then m.f i else o.f (i - m.n)) * (if i < m.n then bw (toLM m) w i else bw (toLM o) w (i - m.n)) :=
  S_congr fun i hi=>by
   rw [lm_plus_bw m o (Nat.le_refl _) hw i hi]
   exact congrArg (· * _) (hf i hi)
 rw [e,S_append]
 congr 1
 ·exact S_congr fun i hi=>by simp only [hi,if_true]; rfl
 ·refine S_congr fun i hi=>?_
  have h1:¬ m.n + i < m.n:=by omega
  have h3:m.n + i - m.n = i:=by omega
  simp only [h1,if_false,h3]; rfl
theorem times_idx {b i j:Nat} (hj:j < b):(i * b + j) / b = i ∧ (i * b + j) % b = j:=by
 have hb:0 < b:=by omega
 constructor
 ·rw [Nat.mul_comm,Nat.mul_add_div hb,Nat.div_eq_of_lt hj]; omega
 ·rw [Nat.mul_comm,Nat.mul_add_mod,Nat.mod_eq_of_lt hj]
theorem idx_lt {a b i j:Nat} (hi:i < a) (hj:j < b):i * b + j < a * b:=by
 have:(i + 1) * b ≤ a * b:=Nat.mul_le_mul_right b hi
 rw [Nat.succ_mul] at this
 omega
theorem lm_times_bw (m o:Machine) {k:Nat} (hk:k ≤ m.k):∀ {w:Wd},lets k w → ∀ i,i < m.n → ∀ j,j < o.n → bw (toLM (Rc64.times m o)) w (i * o.n + j) = bw (toLM m) w i * bw (toLM o) w j
 | [],_,i,hi,j,hj=>by
  have e:=(toLM_made (m.n * o.n) m.k (fun i=>m.f (i / o.n) * o.f (i % o.n)) (fun i=>m.l (i / o.n) * o.l (i % o.n)) fun a i j=>m.on a (i / o.n) (j / o.n) * o.on a (i % o.n) (j % o.n)).l (i * o.n + j) (idx_lt hi hj)
  refine e.trans ?_
  show toK (m.l ((i * o.n + j) / o.n) * o.l ((i * o.n + j) % o.n)) = _
  rw [(times_idx hj).1,(times_idx hj).2,toK_mul]
  rfl
 | a :: w,hw,i,hi,j,hj=>by
  have hw:=lets_cons.1 hw
  have hh:=fun t ht=>(toLM_made (m.n * o.n) m.k (fun i=>m.f (i / o.n) * o.f (i % o.n)) (fun i=>m.l (i / o.n) * o.l (i % o.n)) fun a i j=>m.on a (i / o.n) (j / o.n) * o.on a (i % o.n) (j % o.n)).h a (by omega) (i * o.n + j) (idx_lt hi hj) t ht
  show (S (m.n * o.n) fun t=>(toLM (Rc64.times m o)).h a (i * o.n + j) t * bw (toLM (Rc64.times m o)) w t) = _
  rw [S_prod]
  show _ = (S m.n fun s=>toK (m.on a i s) * bw (toLM m) w s) * (S o.n fun t=>toK (o.on a j t) * bw (toLM o) w t)
  rw [← S_mulr]
  refine S_congr fun s hs=>?_
  rw [← S_mul]
  refine S_congr fun t ht=>?_
  rw [lm_times_bw m o hk hw.2 s hs t ht]
  have e:(toLM (Rc64.times m o)).h a (i * o.n + j) (s * o.n + t) = toK (m.on a i s) * toK (o.on a j t):=by
   refine (hh (s * o.n + t) (idx_lt hs ht)).trans ?_
   show toK (m.on a ((i * o.n + j) / o.n) ((s * o.n + t) / o.n) * o.on a ((i * o.n + j) % o.n) ((s * o.n + t) % o.n)) = _
   rw [(times_idx hj).1,(times_idx hj).2,(times_idx ht).1,(times_idx ht).2,toK_mul]
  rw [e]; grind
theorem wt_times (m o:Machine) {w:Wd} (hw:lets m.k w):wt (toLM (Rc64.times m o)) w = wt (toLM m) w * wt (toLM o) w:=by
 have hf:=(toLM_made (m.n * o.n) m.k (fun i=>m.f (i / o.n) * o.f (i % o.n)) (fun i=>m.l (i / o.n) * o.l (i % o.n)) fun a i j=>m.on a (i / o.n) (j / o.n) * o.on a (i % o.n) (j % o.n)).f
 show (S (m.n * o.n) fun i=>(toLM (Rc64.times m o)).f i * bw (toLM (Rc64.times m o)) w i) = (S m.n fun i=>toK (m.f i) * bw (toLM m) w i) * (S o.n fun i=>toK (o.f i) * bw (toLM o) w i)
 rw [S_prod,← S_mulr]
 refine S_congr fun i hi=>?_
 rw [← S_mul]
 refine S_congr fun j hj=>?_
 rw [lm_times_bw m o (Nat.le_refl _) hw i hi j hj]
 have e:(toLM (Rc64.times m o)).f (i * o.n + j) = toK (m.f i) * toK (o.f j):=by
  refine (hf _ (idx_lt hi hj)).trans ?_
  show toK (m.f ((i * o.n + j) / o.n) * o.f ((i * o.n + j) % o.n)) = _
  rw [(times_idx hj).1,(times_idx hj).2,toK_mul]
 rw [e]; grind
noncomputable def conv (p q:Wd → Kp):Wd → Kp
 | []=>p [] * q []
 | a :: w=>p [] * q (a :: w) + conv (fun u=>p (a :: u)) q w
theorem conv_congr {k:Nat} {q q':Wd → Kp} (hq:∀ w,lets k w → q w = q' w):∀ {w:Wd},lets k w → ∀ {p p':Wd → Kp},(∀ w,lets k w → p w = p' w) → conv p q w = conv p' q' w
 | [],hw,p,p',hp=>by
  show p [] * q [] = p' [] * q' []
  rw [hp [] hw,hq [] hw]
 | a :: w,hw,p,p',hp=>by
  have hw':=lets_cons.1 hw
  show p [] * q (a :: w) + conv (fun u=>p (a :: u)) q w = p' [] * q' (a :: w) + conv (fun u=>p' (a :: u)) q' w
  rw [hp [] (lets_nil k),hq _ hw,conv_congr hq hw'.2 fun u hu=>hp (a :: u) (lets_cons.2 ⟨hw'.1,hu⟩)]
theorem conv_S (q:Wd → Kp) (n:Nat):∀ (w:Wd) (c:Nat → Kp) (p:Nat → Wd → Kp),conv (fun u=>S n fun i=>c i * p i u) q w = S n fun i=>c i * conv (p i) q w
 | [],c,p=>by
  show (S n fun i=>c i * p i []) * q [] = S n fun i=>c i * (p i [] * q [])
  rw [← S_mulr]
  exact S_congr fun i _=>by grind
 | a :: w,c,p=>by
  show (S n fun i=>c i * p i []) * q (a :: w) + conv (fun u=>S n fun i=>c i * p i (a :: u)) q w = S n fun i=>c i * (p i [] * q (a :: w) + conv (fun u=>p i (a :: u)) q w)
  rw [conv_S q n w c fun i u=>p i (a :: u),← S_mulr,← S_add]
  exact S_congr fun i _=>by grind
noncomputable abbrev bf (m o:Machine):Nat → Nat:=fun i=>if i < m.n then m.f i else Rc64.dot m.n m.f m.l * o.f (i - m.n)
noncomputable abbrev bl (m o:Machine):Nat → Nat:=fun i=>if i < m.n then 0 else o.l (i - m.n)
noncomputable abbrev bh (m o:Machine):Nat → Nat → Nat → Nat:=fun a i j =>
 if i < m.n ∧ j < m.n then m.on a i j else if m.n ≤ i ∧ m.n ≤ j then o.on a (i - m.n) (j - m.n) else if i < m.n then Rc64.dot m.n (fun r=>m.on a i r) m.l * o.f (j - m.n) else 0
theorem lm_behind (m o:Machine):LEq m.k (toLM (Rc64.behind m o)) ⟨m.n + o.n,fun i=>toK (bf m o i),fun i=>toK (bl m o i),fun a i j=>toK (bh m o a i j)⟩ :=
 toLM_made (m.n + o.n) m.k (bf m o) (bl m o) (bh m o)
theorem behind_bw2 (m o:Machine):∀ {w:Wd},lets m.k w → ∀ i,i < o.n → bw (toLM (Rc64.behind m o)) w (m.n + i) = bw (toLM o) w i
 | [],_,i,hi=>by
  refine ((lm_behind m o).l (m.n + i) (Nat.add_lt_add_left hi m.n)).trans ?_
  show toK (if m.n + i < m.n then 0 else o.l (m.n + i - m.n)) = toK (o.l i)
  have h1:¬ m.n + i < m.n:=by omega
  have h3:m.n + i - m.n = i:=by omega
  rw [if_neg h1,h3]
 | a :: w,hw,i,hi=>by
  have hw:=lets_cons.1 hw
  have hh:=(lm_behind m o).h a hw.1 (m.n + i) (Nat.add_lt_add_left hi m.n)
  show (S (m.n + o.n) fun j=>(toLM (Rc64.behind m o)).h a (m.n + i) j * bw (toLM (Rc64.behind m o)) w j) = S o.n fun j=>toK (o.on a i j) * bw (toLM o) w j
  rw [S_append]
  have h1:¬ m.n + i < m.n:=by omega
  have h2:m.n ≤ m.n + i:=by omega
  have h3:m.n + i - m.n = i:=by omega
  have z:(S m.n fun j=>(toLM (Rc64.behind m o)).h a (m.n + i) j * bw (toLM (Rc64.behind m o)) w j) = 0 :=
   S_zero' fun j hj=>by
    have h4:¬ m.n ≤ j:=by omega
    have e:=hh j (Nat.lt_of_lt_of_le hj (Nat.le_add_right _ _))
    have e:(toLM (Rc64.behind m o)).h a (m.n + i) j = toK (bh m o a (m.n + i) j):=e
    rw [e]
    show toK (if m.n + i < m.n ∧ j < m.n then _ else _) * _ = 0
    simp only [h1,false_and,if_false,h4,and_false,toK_zero]
    grind
  rw [z]
  have:(S o.n fun j=>(toLM (Rc64.behind m o)).h a (m.n + i) (m.n + j) * bw (toLM (Rc64.behind m o)) w (m.n + j)) = S o.n fun j=>toK (o.on a i j) * bw (toLM o) w j:=by
   refine S_congr fun j hj=>?_
   have e:(toLM (Rc64.behind m o)).h a (m.n + i) (m.n + j) = toK (bh m o a (m.n + i) (m.n + j)):=hh (m.n + j) (Nat.add_lt_add_left hj m.n)
   rw [behind_bw2 m o hw.2 j hj,e]
   show toK (if m.n + i < m.n ∧ m.n + j < m.n then _ else _) * _ = _
   have h4:m.n ≤ m.n + j:=by omega
   have h5:m.n + j - m.n = j:=by omega
   simp only [h1,false_and,if_false,h2,h4,h3,h5,and_self,if_true]
  rw [this]; grind
theorem behind_bw1 (m o:Machine):∀ {w:Wd},lets m.k w → ∀ i,i < m.n → bw (toLM (Rc64.behind m o)) w i + toK (m.l i) * wt (toLM o) w = conv (fun u=>bw (toLM m) u i) (wt (toLM o)) w
 | [],_,i,hi=>by
  have e:bw (toLM (Rc64.behind m o)) [] i = 0:=by
   refine ((lm_behind m o).l i (Nat.lt_of_lt_of_le hi (Nat.le_add_right _ _))).trans ?_
   show toK (if i < m.n then 0 else o.l (i - m.n)) = 0
   rw [if_pos hi,toK_zero]
  rw [e]
  show 0 + toK (m.l i) * wt (toLM o) [] = toK (m.l i) * wt (toLM o) []
  grind
 | a :: w,hw,i,hi=>by
  have hw':=lets_cons.1 hw
  have hh:=(lm_behind m o).h a hw'.1 i (Nat.lt_of_lt_of_le hi (Nat.le_add_right _ _))
  have hni:¬ m.n ≤ i:=by omega
  show (S (m.n + o.n) fun j=>(toLM (Rc64.behind m o)).h a i j * bw (toLM (Rc64.behind m o)) w j) + _ = toK (m.l i) * wt (toLM o) (a :: w) + conv (fun u=>bw (toLM m) (a :: u) i) (wt (toLM o)) w
  have e0:conv (fun u=>bw (toLM m) (a :: u) i) (wt (toLM o)) w = S m.n fun j=>toK (m.on a i j) * conv (fun u=>bw (toLM m) u j) (wt (toLM o)) w :=
   conv_S (wt (toLM o)) m.n w (fun j=>toK (m.on a i j)) fun j u=>bw (toLM m) u j
  have e1:(S m.n fun j=>(toLM (Rc64.behind m o)).h a i j * bw (toLM (Rc64.behind m o)) w j) = S m.n fun j=>toK (m.on a i j) * bw (toLM (Rc64.behind m o)) w j:=by
   refine S_congr fun j hj=>?_
   have e:(toLM (Rc64.behind m o)).h a i j = toK (bh m o a i j):=hh j (Nat.lt_of_lt_of_le hj (Nat.le_add_right _ _))
   rw [e]
   show toK (if i < m.n ∧ j < m.n then _ else _) * _ = _
   rw [if_pos ⟨hi,hj⟩]
  have e2:(S o.n fun j=>(toLM (Rc64.behind m o)).h a i (m.n + j) * bw (toLM (Rc64.behind m o)) w (m.n + j)) = (S m.n fun r=>toK (m.on a i r) * toK (m.l r)) * wt (toLM o) w:=by
   show _ = _ * (S o.n fun j=>toK (o.f j) * bw (toLM o) w j)
   rw [← S_mul]
   refine S_congr fun j hj=>?_
   have e:(toLM (Rc64.behind m o)).h a i (m.n + j) = toK (bh m o a i (m.n + j)):=hh (m.n + j) (Nat.add_lt_add_left hj m.n)
   rw [behind_bw2 m o hw'.2 j hj,e]
   show toK (if i < m.n ∧ m.n + j < m.n then _ else if m.n ≤ i ∧ m.n ≤ m.n + j then _ else if i < m.n then Rc64.dot m.n (fun r=>m.on a i r) m.l * o.f (m.n + j - m.n) else 0) * _ = _
   have h1:¬ m.n + j < m.n:=by omega
   have h5:m.n + j - m.n = j:=by omega
   simp only [h1,and_false,if_false,hni,false_and,hi,if_true,h5]
   rw [toK_mul,toK_dot]
   grind
  rw [S_append,e1,e2,e0,← S_mulr,← S_add]
  have e3:(S m.n fun j=>toK (m.on a i j) * bw (toLM (Rc64.behind m o)) w j + toK (m.on a i j) * toK (m.l j) * wt (toLM o) w) = S m.n fun j=>toK (m.on a i j) * conv (fun u=>bw (toLM m) u j) (wt (toLM o)) w:=by
   refine S_congr fun j hj=>?_
   rw [← behind_bw1 m o hw'.2 j hj]
   grind
  rw [e3]; grind
theorem wt_behind (m o:Machine) {w:Wd} (hw:lets m.k w):wt (toLM (Rc64.behind m o)) w = conv (wt (toLM m)) (wt (toLM o)) w:=by
 have hf:=(lm_behind m o).f
 show (S (m.n + o.n) fun i=>(toLM (Rc64.behind m o)).f i * bw (toLM (Rc64.behind m o)) w i) = _
 have e0:conv (wt (toLM m)) (wt (toLM o)) w = S m.n fun j=>toK (m.f j) * conv (fun u=>bw (toLM m) u j) (wt (toLM o)) w :=
  conv_S (wt (toLM o)) m.n w (fun j=>toK (m.f j)) fun j u=>bw (toLM m) u j
 have e1:(S m.n fun j=>(toLM (Rc64.behind m o)).f j * bw (toLM (Rc64.behind m o)) w j) = S m.n fun j=>toK (m.f j) * bw (toLM (Rc64.behind m o)) w j:=by
  refine S_congr fun j hj=>?_
  have e:(toLM (Rc64.behind m o)).f j = toK (bf m o j):=hf j (Nat.lt_of_lt_of_le hj (Nat.le_add_right _ _))
  rw [e]
  show toK (if j < m.n then _ else _) * _ = _
  rw [if_pos hj]
 have e2:(S o.n fun j=>(toLM (Rc64.behind m o)).f (m.n + j) * bw (toLM (Rc64.behind m o)) w (m.n + j)) = (S m.n fun r=>toK (m.f r) * toK (m.l r)) * wt (toLM o) w:=by
  show _ = _ * (S o.n fun j=>toK (o.f j) * bw (toLM o) w j)
  rw [← S_mul]
  refine S_congr fun j hj=>?_
  have e:(toLM (Rc64.behind m o)).f (m.n + j) = toK (bf m o (m.n + j)):=hf (m.n + j) (Nat.add_lt_add_left hj m.n)
  rw [behind_bw2 m o hw j hj,e]
  show toK (if m.n + j < m.n then _ else Rc64.dot m.n m.f m.l * o.f (m.n + j - m.n)) * _ = _
  have h1:¬ m.n + j < m.n:=by omega
  have h5:m.n + j - m.n = j:=by omega
  simp only [h1,if_false,h5]
  rw [toK_mul,toK_dot]
  grind
 rw [S_append,e1,e2,e0,← S_mulr,← S_add]
 refine S_congr fun j hj=>?_
 rw [← behind_bw1 m o hw j hj]
 grind
theorem lm_turned (m:Machine):LEq m.k (toLM (Rc64.turned m)) (tr (toLM m)):=toLM_made m.n m.k m.l m.f fun a i j=>m.on a j i
theorem wt_turned (m:Machine) {w:Wd} (hw:lets m.k w):wt (toLM (Rc64.turned m)) w = wt (toLM m) w.reverse:=by
 rw [(lm_turned m).wt hw,wt_tr]
end Wm
namespace Wm
open Lean.Grind (CommRing)
open Rc64 (Machine P made right Row taken fresh rowsOf seen leastOf)
section
variable {K:Type} [CommRing K]
inductive Sp (N:Nat) (X:(Nat → K) → Prop):(Nat → K) → Prop
 | mem {x z:Nat → K}:X x → (∀ j,j < N → z j = x j) → Sp N X z
 | zero {z:Nat → K}:(∀ j,j < N → z j = 0) → Sp N X z
 | comb {x y z:Nat → K} (c:K):Sp N X x → Sp N X y → (∀ j,j < N → z j = x j + c * y j) → Sp N X z
theorem Sp.congr {N:Nat} {X:(Nat → K) → Prop} {x y:Nat → K} (h:Sp N X x) (e:∀ j,j < N → y j = x j):Sp N X y:=by
 cases h with
 | mem hx hz=>exact Sp.mem hx fun j hj=>(e j hj).trans (hz j hj)
 | zero hz=>exact Sp.zero fun j hj=>(e j hj).trans (hz j hj)
 | comb c h1 h2 hz=>exact Sp.comb c h1 h2 fun j hj=>(e j hj).trans (hz j hj)
theorem Sp.mono {N:Nat} {X Y:(Nat → K) → Prop} (h:∀ x,X x → Sp N Y x) {x:Nat → K} (hx:Sp N X x):Sp N Y x:=by
 induction hx with
 | mem hx hz=>exact (h _ hx).congr hz
 | zero hz=>exact Sp.zero hz
 | comb c _ _ hz h1 h2=>exact Sp.comb c h1 h2 hz
theorem Sp.smul {N:Nat} {X:(Nat → K) → Prop} (c:K) {x z:Nat → K} (hx:Sp N X x) (hz:∀ j,j < N → z j = c * x j):Sp N X z :=
 Sp.comb c (Sp.zero (z:=fun _=>0) fun _ _=>rfl) hx fun j hj=>by rw [hz j hj]; grind
theorem Sp.sum {N:Nat} {X:(Nat → K) → Prop} (R:Nat → Nat → K) (c:Nat → K):∀ (r:Nat),(∀ i,i < r → Sp N X (R i)) → Sp N X fun j=>S r fun i=>c i * R i j
 | 0,_=>Sp.zero fun _ _=>rfl
 | r + 1,h=>Sp.comb (c r) (Sp.sum R c r fun i hi=>h i (by omega)) (h r (by omega)) fun _ _=>rfl
theorem Sp.step {A:LM K} {X Y:(Nat → K) → Prop} (a:Nat) (h:∀ x,X x → Sp A.n Y (fstep A x a)) {x:Nat → K} (hx:Sp A.n X x):Sp A.n Y (fstep A x a):=by
 induction hx with
 | mem hx hz=>exact (h _ hx).congr fun j _=>S_congr fun i hi=>by rw [hz i hi]
 | zero hz=>exact Sp.zero fun j _=>S_zero' fun i hi=>by rw [hz i hi]; grind
 | @comb x y z c _ _ hz h1 h2 =>
  refine Sp.comb c h1 h2 fun j _=>?_
  show (S A.n fun i=>z i * A.h a i j) = (S A.n fun i=>x i * A.h a i j) + c * S A.n fun i=>y i * A.h a i j
  rw [← S_mul,← S_add]
  exact S_congr fun i hi=>by rw [hz i hi]; grind
theorem Sp.coeffs {N r:Nat} {R:Nat → Nat → K} {x:Nat → K} (hx:Sp N (fun y=>∃ i,i < r ∧ y = R i) x):∃ c:Nat → K,∀ j,j < N → x j = S r fun i=>c i * R i j:=by
 induction hx with
 | mem hx hz =>
  obtain ⟨i,hi,e⟩:=hx
  refine ⟨fun s=>if s = i then 1 else 0,fun j hj=>?_⟩
  rw [hz j hj,e]
  have:(S r fun s=>(if s = i then 1 else 0) * R s j) = S r fun s=>if s = i then R s j else 0 :=
   S_congr fun s _=>by by_cases h:s = i <;> simp [h] <;> grind
  rw [this,S_delta]
  simp [hi]
 | zero hz=>exact ⟨fun _=>0,fun j hj=>by rw [hz j hj]; exact (S_zero' fun i _=>by grind).symm⟩
 | comb c _ _ hz h1 h2 =>
  obtain ⟨c1,h1⟩:=h1
  obtain ⟨c2,h2⟩:=h2
  refine ⟨fun i=>c1 i + c * c2 i,fun j hj=>?_⟩
  rw [hz j hj,h1 j hj,h2 j hj,← S_mul,← S_add]
  exact S_congr fun i _=>by grind
theorem Sp.words {k:Nat} {A:LM K} {x:Nat → K} (hx:Sp A.n (fun y=>∃ w,lets k w ∧ y = fw A w) x):∃ c:Comb K,clets k c ∧ ∀ j,j < A.n → cv A c j = x j:=by
 induction hx with
 | mem hx hz =>
  obtain ⟨w,hw,e⟩:=hx
  refine ⟨[(1,w)],clets_cons.2 ⟨hw,clets_nil k⟩,fun j hj=>?_⟩
  show 1 * fw A w j + 0 = _
  rw [hz j hj,e]; grind
 | zero hz=>exact ⟨[],clets_nil k,fun j hj=>(hz j hj).symm⟩
 | comb c _ _ hz h1 h2 =>
  obtain ⟨c1,l1,h1⟩:=h1
  obtain ⟨c2,l2,h2⟩:=h2
  refine ⟨c1 ++ cscale c c2,clets_append.2 ⟨l1,clets_scale l2⟩,fun j hj=>?_⟩
  rw [cv_append,cv_scale,hz j hj,h1 j hj,h2 j hj]
end
noncomputable def rowK (l:List Row) (i:Nat):Nat → Kp:=vk (l.getD i (0,[])).2
noncomputable def Ech (N:Nat):List Row → Prop
 | []=>True
 | r :: l=>r.2.length = N ∧ below r.2 ∧ r.1 < N ∧ vk r.2 r.1 = 1 ∧ (∀ s,s ∈ l → vk s.2 r.1 = 0) ∧ Ech N l
theorem rowK_cons (r:Row) (l:List Row) (i:Nat):rowK (r :: l) (i + 1) = rowK l i:=rfl
theorem rowK_zero (r:Row) (l:List Row):rowK (r :: l) 0 = vk r.2:=rfl
theorem rowK_mem {l:List Row} {i:Nat} (h:i < l.length):l[i] ∈ l ∧ rowK l i = vk l[i].2 :=
 ⟨List.getElem_mem h,by unfold rowK; rw [getD_lt h]⟩
theorem Ech.mem {N:Nat}:∀ {l:List Row},Ech N l → ∀ r,r ∈ l → r.2.length = N ∧ below r.2 ∧ r.1 < N
 | [],_,_,h=>by cases h
 | s :: l,h,r,hr=>by
  rcases List.mem_cons.1 hr with e | hr
  ·subst e; exact ⟨h.1,h.2.1,h.2.2.1⟩
  ·exact Ech.mem h.2.2.2.2.2 r hr
theorem Ech.indep {N:Nat}:∀ {l:List Row},Ech N l → Indep l.length N (rowK l)
 | [],_=>fun _ _ i hi=>absurd hi (by simp)
 | r :: l,h=>by
  intro c hc
  have h0:c 0 = 0:=by
   have e:=hc r.1 h.2.2.1
   rw [List.length_cons,S_shift] at e
   have z:(S l.length fun i=>c (i + 1) * rowK (r :: l) (i + 1) r.1) = 0:=S_zero' fun i hi=>by
    rw [rowK_cons,(rowK_mem hi).2,h.2.2.2.2.1 _ (rowK_mem hi).1]; grind
   rw [z,rowK_zero,h.2.2.2.1] at e
   grind
  have hr:=Ech.indep h.2.2.2.2.2 (fun i=>c (i + 1)) fun j hj=>by
   have e:=hc j hj
   rw [List.length_cons,S_shift,h0] at e
   have:(S l.length fun i=>c (i + 1) * rowK (r :: l) (i + 1) j) = 0:=by grind
   exact this
  intro i hi
  cases i with
  | zero=>exact h0
  | succ i=>exact hr i (by simpa using hi)
theorem Ech.len {N:Nat} {l:List Row} (h:Ech N l):l.length ≤ N:=by
 refine Classical.byContradiction fun hx=>?_
 obtain ⟨c,⟨i,hi,hne⟩,hc⟩:=dep N l.length (rowK l) (by omega)
 exact hne (h.indep c hc i hi)
structure Took (N:Nat) (l:List Row) (v:List Nat) (x:List Nat × List Nat):Prop where
 cl:x.1.length = l.length
 cb:below x.1
 len:x.2.length = N
 b:below x.2
 eq:∀ j,j < N → vk v j = (S l.length fun i=>vk x.1 i * rowK l i j) + vk x.2 j
 piv:∀ r,r ∈ l → vk x.2 r.1 = 0
theorem vk_less {N c:Nat} {v r:List Nat} (hv:v.length = N) (hr:r.length = N) (hc:c < P) (j:Nat) (hj:j < N) :
  vk (List.zipWith (fun a b=>(a + (P - c) * b) % P) v r) j = vk v j - toK c * vk r j:=by
 show toK (List.getD _ _ _) = _
 rw [getD_zipWith _ _ _ _ (by omega) (by omega),toK_mod,toK_add,toK_mul,toK_neg (Nat.le_of_lt hc)]
 show vk v j + - toK c * vk r j = _
 grind
theorem took {N:Nat}:∀ {l:List Row},Ech N l → ∀ {v:List Nat},v.length = N → below v → Took N l v (taken l v)
 | [],_,v,hv,hb=>⟨rfl,below_nil,hv,hb,fun j _=>by show vk v j = 0 + vk v j; grind,fun _ h=>by cases h⟩
 | r :: l,h,v,hv,hb=>by
  have hc:v.getD r.1 0 < P:=below_getD hb _
  have hlen:(List.zipWith (fun a b=>(a + (P - v.getD r.1 0) * b) % P) v r.2).length = N:=by
   rw [List.length_zipWith,hv,h.1]; omega
  have ih:=took h.2.2.2.2.2 hlen (below_zipWith_mod (fun a b=>a + (P - v.getD r.1 0) * b) _ _)
  have hz:=vk_less hv h.1 hc
  show Took N (r :: l) v (v.getD r.1 0 :: (taken l (List.zipWith (fun a b=>(a + (P - v.getD r.1 0) * b) % P) v r.2)).1,(taken l (List.zipWith (fun a b=>(a + (P - v.getD r.1 0) * b) % P) v r.2)).2)
  refine ⟨congrArg (· + 1) ih.cl,below_cons.2 ⟨hc,ih.cb⟩,ih.len,ih.b,fun j hj=>?_,fun s hs=>?_⟩
  ·have e:=ih.eq j hj
   rw [hz j hj] at e
   rw [List.length_cons,S_shift]
   have e0:vk (v.getD r.1 0 :: (taken l (List.zipWith (fun a b=>(a + (P - v.getD r.1 0) * b) % P) v r.2)).1) 0 = toK (v.getD r.1 0):=rfl
   have e1:(S l.length fun i=>vk (v.getD r.1 0 :: (taken l (List.zipWith (fun a b=>(a + (P - v.getD r.1 0) * b) % P) v r.2)).1) (i + 1) * rowK (r :: l) (i + 1) j) = S l.length fun i=>vk (taken l (List.zipWith (fun a b=>(a + (P - v.getD r.1 0) * b) % P) v r.2)).1 i * rowK l i j:=rfl
   rw [e0,e1,rowK_zero]
   grind
  ·rcases List.mem_cons.1 hs with e | hs
   ·subst e
    have e:=ih.eq s.1 h.2.2.1
    rw [hz _ h.2.2.1,h.2.2.2.1] at e
    have z:(S l.length fun i=>vk (taken l (List.zipWith (fun a b=>(a + (P - v.getD s.1 0) * b) % P) v s.2)).1 i * rowK l i s.1) = 0:=S_zero' fun i hi=>by
     rw [(rowK_mem hi).2,h.2.2.2.2.1 _ (rowK_mem hi).1]; grind
    rw [z] at e
    have e2:vk v s.1 = toK (v.getD s.1 0):=rfl
    rw [e2] at e
    show vk (taken l _).2 s.1 = 0
    grind
   ·exact ih.piv s hs
theorem Ech.snoc {N:Nat} {r:Row} (hl:r.2.length = N) (hb:below r.2) (hp:r.1 < N) (h1:vk r.2 r.1 = 1):∀ {l:List Row},Ech N l → (∀ s,s ∈ l → vk r.2 s.1 = 0) → Ech N (l ++ [r])
 | [],_,_=>⟨hl,hb,hp,h1,fun _ h=>(by cases h),trivial⟩
 | t :: l,h,hs=>by
  refine ⟨h.1,h.2.1,h.2.2.1,h.2.2.2.1,fun s hm=>?_,Ech.snoc hl hb hp h1 h.2.2.2.2.2 fun s hm=>hs s (List.mem_cons_of_mem _ hm)⟩
  rcases List.mem_append.1 hm with hm | hm
  ·exact h.2.2.2.2.1 s hm
  ·have:s = r:=by simpa using hm
   subst this
   exact hs t (List.mem_cons_self ..)
noncomputable def InRows (N:Nat) (l:List Row) (x:Nat → Kp):Prop:=Sp N (fun y=>∃ r,r ∈ l ∧ y = vk r.2) x
theorem InRows.mono {N:Nat} {l l':List Row} {x:Nat → Kp} (h:InRows N l x) (hs:∀ r,r ∈ l → r ∈ l'):InRows N l' x :=
 Sp.mono (fun _ ⟨r,hr,e⟩=>Sp.mem ⟨r,hs r hr,rfl⟩ fun _ _=>by rw [e]) h
theorem InRows.coeffs {N:Nat} {l:List Row} {x:Nat → Kp} (h:InRows N l x):∃ c:Nat → Kp,∀ j,j < N → x j = S l.length fun i=>c i * rowK l i j:=by
 refine Sp.coeffs (Sp.mono (fun y hy=>?_) h)
 obtain ⟨r,hr,e⟩:=hy
 obtain ⟨i,hi,ei⟩:=List.mem_iff_getElem.1 hr
 refine Sp.mem ⟨i,hi,rfl⟩ fun _ _=>?_
 rw [(rowK_mem hi).2,ei,e]
theorem Took.whole {N:Nat} {l:List Row} (hl:Ech N l) {v:List Nat} {x:List Nat × List Nat} (t:Took N l v x) (h:InRows N l (vk v)):∀ j,j < N → (S l.length fun i=>vk x.1 i * rowK l i j) = vk v j:=by
 obtain ⟨c,hc⟩:=h.coeffs
 have key:∀ {l:List Row},Ech N l → ∀ (d:Nat → Kp),(∀ r,r ∈ l → (S l.length fun i=>d i * rowK l i r.1) = 0) → ∀ i,i < l.length → d i = 0:=by
  intro l
  induction l with
  | nil=>intro _ d _ i hi; exact absurd hi (by simp)
  | cons r l ih =>
   intro hl d hd
   have h0:d 0 = 0:=by
    have e:=hd r (List.mem_cons_self ..)
    rw [List.length_cons,S_shift] at e
    have z:(S l.length fun i=>d (i + 1) * rowK (r :: l) (i + 1) r.1) = 0:=S_zero' fun i hi=>by
     rw [rowK_cons,(rowK_mem hi).2,hl.2.2.2.2.1 _ (rowK_mem hi).1]; grind
    rw [z,rowK_zero,hl.2.2.2.1] at e
    grind
   have hr:=ih hl.2.2.2.2.2 (fun i=>d (i + 1)) fun s hs=>by
    have e:=hd s (List.mem_cons_of_mem _ hs)
    rw [List.length_cons,S_shift,h0] at e
    have:(S l.length fun i=>d (i + 1) * rowK (r :: l) (i + 1) s.1) = 0:=by grind
    exact this
   intro i hi
   cases i with
   | zero=>exact h0
   | succ i=>exact hr i (by simpa using hi)
 have e:∀ j,j < N → (S l.length fun i=>(c i - vk x.1 i) * rowK l i j) = vk x.2 j:=by
  intro j hj
  have e1:=t.eq j hj
  rw [hc j hj] at e1
  have e2:(S l.length fun i=>(c i - vk x.1 i) * rowK l i j) + (S l.length fun i=>vk x.1 i * rowK l i j) = S l.length fun i=>c i * rowK l i j:=by
   rw [← S_add]
   exact S_congr fun i _=>by grind
  grind
 have hd:=key hl (fun i=>c i - vk x.1 i) fun r hr=>by rw [e r.1 (hl.mem r hr).2.2,t.piv r hr]
 intro j hj
 rw [hc j hj]
 refine S_congr fun i hi=>?_
 have:=hd i hi
 grind
theorem fresh_none {N:Nat} {l:List Row} {v:List Nat} {x:List Nat × List Nat} (t:Took N l v x) (h:(x.2.findIdx? fun a=>a != 0) = none):InRows N l (vk v):=by
 have h0:∀ a,a ∈ x.2 → a = 0:=by simpa using h
 have e:∀ j,j < N → vk v j = S l.length fun i=>vk x.1 i * rowK l i j:=by
  intro j hj
  rw [t.eq j hj]
  have:vk x.2 j = 0:=by
   have hj':j < x.2.length:=by rw [t.len]; exact hj
   show toK (x.2.getD j 0) = 0
   rw [getD_lt hj',h0 _ (List.getElem_mem hj'),toK_zero]
  rw [this]; grind
 refine (Sp.sum (rowK l) (vk x.1) l.length fun i hi=>?_).congr e
 exact Sp.mem ⟨l[i],(rowK_mem hi).1,rfl⟩ fun _ _=>by rw [(rowK_mem hi).2]
structure Fresh (N:Nat) (l:List Row) (v:List Nat) (r:Row):Prop where
 ech:Ech N (l ++ [r])
 inn:InRows N (l ++ [r]) (vk v)
 out:Sp N (fun y=>(∃ s,s ∈ l ∧ y = vk s.2) ∨ y = vk v) (vk r.2)
theorem fresh_cases {N:Nat} {l:List Row} (hl:Ech N l) {v:List Nat} (hv:v.length = N) (hb:below v) :
  (fresh l v = none ∧ InRows N l (vk v)) ∨ ∃ r,fresh l v = some r ∧ Fresh N l v r:=by
 have t:=took hl hv hb
 unfold fresh
 cases hf:((taken l v).2.findIdx? fun a=>a != 0) with
 | none=>exact Or.inl ⟨by simp [hf],fresh_none t hf⟩
 | some p =>
  refine Or.inr ⟨(p,(taken l v).2.map fun a=>a * Rc64.inverse ((taken l v).2.getD p 0) % P),by simp [hf],?_⟩
  obtain ⟨hp,hne,_⟩:=List.findIdx?_eq_some_iff_getElem.1 hf
  have hpN:p < N:=by rw [← t.len]; exact hp
  have hne:(taken l v).2.getD p 0 ≠ 0:=by rw [getD_lt hp]; simpa using hne
  have hx0:vk (taken l v).2 p ≠ 0:=toK_ne_zero (below_getD t.b p) hne
  have hinv:vk (taken l v).2 p * toK (Rc64.inverse ((taken l v).2.getD p 0)) = 1:=toK_inverse hx0
  have hvk:∀ j,j < N → vk ((taken l v).2.map fun a=>a * Rc64.inverse ((taken l v).2.getD p 0) % P) j = toK (Rc64.inverse ((taken l v).2.getD p 0)) * vk (taken l v).2 j:=by
   intro j hj
   have hj':j < (taken l v).2.length:=by rw [t.len]; exact hj
   show toK (List.getD _ _ _) = _ * toK ((taken l v).2.getD j 0)
   rw [getD_lt (by simpa using hj'),getD_lt hj',List.getElem_map,toK_mod,toK_mul]
   grind
  refine ⟨Ech.snoc (by simpa using t.len) (below_map_mod _ _) hpN (by rw [hvk p hpN]; grind) hl fun s hs=>?_,?_,?_⟩
  ·rw [hvk s.1 (hl.mem s hs).2.2,t.piv s hs]; grind
  ·refine Sp.comb (x:=fun j=>S l.length fun i=>vk (taken l v).1 i * rowK l i j) (y:=vk ((taken l v).2.map fun a=>a * Rc64.inverse ((taken l v).2.getD p 0) % P)) (vk (taken l v).2 p) ?_ ?_ ?_
   ·refine Sp.sum (rowK l) (vk (taken l v).1) l.length fun i hi=>?_
    exact Sp.mem ⟨l[i],List.mem_append_left _ (rowK_mem hi).1,rfl⟩ fun _ _=>by rw [(rowK_mem hi).2]
   ·exact Sp.mem ⟨_,List.mem_append_right _ (List.mem_singleton.2 rfl),rfl⟩ fun _ _=>rfl
   ·intro j hj
    show vk v j = (S l.length fun i=>vk (taken l v).1 i * rowK l i j) + _
    rw [t.eq j hj,hvk j hj]; grind
  ·have hs:Sp N (fun y=>(∃ s,s ∈ l ∧ y = vk s.2) ∨ y = vk v) (vk (taken l v).2):=by
    refine Sp.comb (x:=vk v) (y:=fun j=>S l.length fun i=>vk (taken l v).1 i * rowK l i j) (-1) (Sp.mem (Or.inr rfl) fun _ _=>rfl) ?_ ?_
    ·refine Sp.sum (rowK l) (vk (taken l v).1) l.length fun i hi=>?_
     exact Sp.mem (Or.inl ⟨l[i],(rowK_mem hi).1,rfl⟩) fun _ _=>by rw [(rowK_mem hi).2]
    ·intro j hj
     show vk (taken l v).2 j = vk v j + -1 * (S l.length fun i=>vk (taken l v).1 i * rowK l i j)
     rw [t.eq j hj]; grind
   exact hs.smul (toK (Rc64.inverse ((taken l v).2.getD p 0))) hvk
structure Come (m:Machine) (v:List Nat):Prop where
 len:v.length = m.n
 b:below v
 word:∃ w,lets m.k w ∧ ∀ j,j < m.n → vk v j = fw (toLM m) w j
theorem Come.step {m:Machine} (hm:Rt m) {v:List Nat} (h:Come m v) {a:Nat} (ha:a < m.k):Come m (Rc64.stepBy m v a):=by
 rw [stepBy_eq hm h.len ha]
 obtain ⟨w,hw,e⟩:=h.word
 refine ⟨step_len ..,step_below m v a,w ++ [a],lets_append.2 ⟨hw,lets_cons.2 ⟨ha,lets_nil _⟩⟩,fun j hj=>?_⟩
 rw [vk_step _ _ _ _ hj,fw_snoc]
 exact S_congr fun i hi=>by rw [e i hi]
structure RowsInv (m:Machine) (q:List (List Nat)) (l:List Row) (acc:List (List Nat)):Prop where
 ech:Ech m.n l
 qs:∀ v,v ∈ q → Come m v
 accs:∀ v,v ∈ acc → Come m v
 rows:∀ r,r ∈ l → Sp m.n (fun y=>∃ v,v ∈ acc ∧ y = vk v) (vk r.2)
 first:InRows m.n l (vk m.first) ∨ m.first ∈ q
 steps:∀ v,v ∈ acc → ∀ a,a < m.k → InRows m.n l (vk (Rc64.stepBy m v a)) ∨ Rc64.stepBy m v a ∈ q
theorem rowsOf_inv {m:Machine} (hm:Rt m):∀ (f:Nat) (q:List (List Nat)) (l:List Row) (acc:List (List Nat)),RowsInv m q l acc → q.length + m.k * (m.n - l.length) ≤ f →
  ∃ acc',RowsInv m [] (rowsOf m f q l) acc'
 | 0,q,l,acc,h,hf=>by
  have:q = []:=List.length_eq_zero_iff.1 (by omega)
  subst this
  exact ⟨acc,h⟩
 | f + 1,[],l,acc,h,_=>⟨acc,h⟩
 | f + 1,v :: q,l,acc,h,hf=>by
  have hv:=h.qs v (List.mem_cons_self ..)
  rw [List.length_cons] at hf
  rcases fresh_cases h.ech hv.len hv.b with ⟨e,hin⟩ | ⟨r,e,hr⟩
  ·have:rowsOf m (f + 1) (v :: q) l = rowsOf m f q l:=by
    rw [rowsOf]; rw [e]
   rw [this]
   refine rowsOf_inv hm f q l acc ⟨h.ech,fun u hu=>h.qs u (List.mem_cons_of_mem _ hu),h.accs,h.rows,?_,fun u hu a ha=>?_⟩ (by omega)
   ·rcases h.first with h | h
    ·exact Or.inl h
    ·rcases List.mem_cons.1 h with h | h
     ·exact Or.inl (h ▸ hin)
     ·exact Or.inr h
   ·rcases h.steps u hu a ha with h | h
    ·exact Or.inl h
    ·rcases List.mem_cons.1 h with h | h
     ·exact Or.inl (h ▸ hin)
     ·exact Or.inr h
  ·have:rowsOf m (f + 1) (v :: q) l = rowsOf m f (q ++ (List.range m.k).map (Rc64.stepBy m v)) (l ++ [r]):=by
    rw [rowsOf]; rw [e]
   rw [this]
   have hlen:=hr.ech.len
   rw [List.length_append,List.length_singleton] at hlen
   have up:∀ {x:Nat → Kp},InRows m.n l x → InRows m.n (l ++ [r]) x:=fun hx=>hx.mono fun s hs=>List.mem_append_left _ hs
   refine rowsOf_inv hm f _ _ (v :: acc) ⟨hr.ech,fun u hu=>?_,fun u hu=>?_,fun s hs=>?_,?_,fun u hu a ha=>?_⟩ ?_
   ·rcases List.mem_append.1 hu with hu | hu
    ·exact h.qs u (List.mem_cons_of_mem _ hu)
    ·obtain ⟨a,ha,e⟩:=List.mem_map.1 hu
     rw [← e]
     exact hv.step hm (List.mem_range.1 ha)
   ·rcases List.mem_cons.1 hu with hu | hu
    ·exact hu ▸ hv
    ·exact h.accs u hu
   ·have old:∀ s,s ∈ l → Sp m.n (fun y=>∃ u,u ∈ v :: acc ∧ y = vk u) (vk s.2):=fun s hs =>
     Sp.mono (fun y ⟨u,hu,e⟩=>Sp.mem ⟨u,List.mem_cons_of_mem _ hu,rfl⟩ fun _ _=>by rw [e]) (h.rows s hs)
    rcases List.mem_append.1 hs with hs | hs
    ·exact old s hs
    ·have:s = r:=by simpa using hs
     subst this
     refine Sp.mono (fun y hy=>?_) hr.out
     rcases hy with ⟨t,ht,e⟩ | e
     ·rw [e]; exact old t ht
     ·rw [e]; exact Sp.mem ⟨v,List.mem_cons_self ..,rfl⟩ fun _ _=>rfl
   ·rcases h.first with h | h
    ·exact Or.inl (up h)
    ·rcases List.mem_cons.1 h with h | h
     ·exact Or.inl (h ▸ hr.inn)
     ·exact Or.inr (List.mem_append_left _ h)
   ·rcases List.mem_cons.1 hu with hu | hu
    ·subst hu
     exact Or.inr (List.mem_append_right _ (List.mem_map.2 ⟨a,List.mem_range.2 ha,rfl⟩))
    ·rcases h.steps u hu a ha with h | h
     ·exact Or.inl (up h)
     ·rcases List.mem_cons.1 h with h | h
      ·exact Or.inl (h ▸ hr.inn)
      ·exact Or.inr (List.mem_append_left _ h)
   ·rw [List.length_append,List.length_append,List.length_map,List.length_range,List.length_singleton]
    have:m.k * (m.n - l.length) = m.k * (m.n - (l.length + 1)) + m.k:=by
     have:m.n - l.length = (m.n - (l.length + 1)) + 1:=by omega
     rw [this,Nat.mul_succ]
    omega
structure Basis (m:Machine) (l:List Row):Prop where
 ech:Ech m.n l
 words:∀ r,r ∈ l → Sp m.n (fun y=>∃ w,lets m.k w ∧ y = fw (toLM m) w) (vk r.2)
 first:InRows m.n l (vk m.first)
 steps:∀ r,r ∈ l → ∀ a,a < m.k → InRows m.n l (fstep (toLM m) (vk r.2) a)
theorem RowsInv.basis {m:Machine} (hm:Rt m) {l:List Row} {acc:List (List Nat)} (h:RowsInv m [] l acc):Basis m l where
 ech:=h.ech
 words:=fun r hr=>Sp.mono (fun y ⟨v,hv,e⟩=>by
  obtain ⟨w,hw,ew⟩:=(h.accs v hv).word
  rw [e]
  exact Sp.mem ⟨w,hw,rfl⟩ ew) (h.rows r hr)
 first:=by
  rcases h.first with h | h
  ·exact h
  ·cases h
 steps:=fun r hr a ha=>by
  refine Sp.step (A:=toLM m) a (fun y ⟨v,hv,e⟩=>?_) (h.rows r hr)
  have hv':=h.accs v hv
  have hs:InRows m.n l (vk (Rc64.stepBy m v a)):=by
   rcases h.steps v hv a ha with h | h
   ·exact h
   ·cases h
  rw [stepBy_eq hm hv'.len ha] at hs
  rw [e]
  exact hs.congr fun j hj=>(vk_step m v a j hj).symm
theorem rowsOf_basis {m:Machine} (hm:Rt m) (hn:m.n ≤ 32) (hk:m.k ≤ 4):Basis m (rowsOf m Rc64.FUEL [m.first] []):=by
 obtain ⟨acc,h⟩:=rowsOf_inv hm Rc64.FUEL [m.first] [] [] ⟨trivial,fun v hv=>by
   have:v = m.first:=by simpa using hv
   rw [this]
   exact ⟨hm.fl,hm.fb,[],lets_nil _,fun _ _=>rfl⟩,fun _ h=>(by cases h),fun _ h=>(by cases h),Or.inr (List.mem_singleton.2 rfl),fun _ h=>(by cases h)⟩ (by
   have:m.k * m.n ≤ 4 * 32:=Nat.mul_le_mul hk hn
   simp only [List.length_singleton,List.length_nil,Nat.sub_zero,Rc64.FUEL]
   omega)
 exact h.basis hm
noncomputable def seenBy (m:Machine) (l:List Row):Machine :=
 let first:=(taken l m.first).1
 let on:=(List.range m.k).map fun a=>l.map fun r=>(taken l (Rc64.stepBy m r.2 a)).1
 made l.length m.k (fun i=>first.getD i 0) (fun i=>Rc64.dotBy (l.getD i (0,[])).2 m.last) fun a i j=>((on.getD a []).getD i []).getD j 0
theorem getD_map_range' {α:Type} (g:Nat → α) (d:α) (n i:Nat) (h:i < n):((List.range n).map g).getD i d = g i:=by
 rw [getD_lt (by simpa using h)]
 simp
theorem getD_map' {α β:Type} (g:α → β) (d:β) (l:List α) (i:Nat) (h:i < l.length):(l.map g).getD i d = g l[i]:=by
 rw [getD_lt (by simpa using h)]
 simp
theorem seenBy_red {m:Machine} (hm:Rt m) {l:List Row} (b:Basis m l):Red m.k (toLM m) (toLM (seenBy m l)) (rowK l):=by
 have e:=toLM_made l.length m.k (fun i=>(taken l m.first).1.getD i 0) (fun i=>Rc64.dotBy (l.getD i (0,[])).2 m.last) fun a i j=>((((List.range m.k).map fun a=>l.map fun r=>(taken l (Rc64.stepBy m r.2 a)).1).getD a []).getD i []).getD j 0
 refine ⟨fun j hj=>?_,fun i hi=>?_,fun a ha i hi j hj=>?_⟩
 ·have t:=took b.ech hm.fl hm.fb
  have w:=t.whole b.ech b.first j hj
  refine Eq.trans ?_ w
  refine S_congr fun i hi=>?_
  exact congrArg (· * rowK l i j) (e.f i hi)
 ·have hi:i < l.length:=hi
  refine (e.l i hi).trans ?_
  show toK (Rc64.dotBy (l.getD i (0,[])).2 m.last) = _
  have hl:=(b.ech.mem _ (rowK_mem hi).1).1
  rw [getD_lt hi,toK_dotBy (by rw [hl,hm.ll]),hl]
  refine S_congr fun j _=>?_
  rw [(rowK_mem hi).2]
  rfl
 ·have hi:i < l.length:=hi
  have hr:=b.ech.mem _ (rowK_mem hi).1
  have t:=took b.ech (v:=Rc64.stepBy m l[i].2 a) (by rw [stepBy_eq hm hr.1 ha,step_len]) (by rw [stepBy_eq hm hr.1 ha]; exact step_below m _ a)
  have hin:InRows m.n l (vk (Rc64.stepBy m l[i].2 a)):=by
   rw [stepBy_eq hm hr.1 ha]
   exact (b.steps _ (rowK_mem hi).1 a ha).congr fun j hj=>vk_step m _ a j hj
  have w:=t.whole b.ech hin j hj
  rw [stepBy_eq hm hr.1 ha,vk_step _ _ _ _ hj] at w
  show (S l.length fun s=>(toLM (seenBy m l)).h a i s * rowK l s j) = fstep (toLM m) (rowK l i) a j
  rw [(rowK_mem hi).2,← w]
  refine S_congr fun s hs=>?_
  refine congrArg (· * rowK l s j) ((e.h a ha i hi s hs).trans ?_)
  show toK (((((List.range m.k).map fun a=>l.map fun r=>(taken l (Rc64.stepBy m r.2 a)).1).getD a []).getD i []).getD s 0) = _
  rw [getD_map_range' _ _ _ _ ha,getD_map' _ _ _ _ hi,stepBy_eq hm hr.1 ha]
  rfl
structure SeenOk (m s:Machine):Prop where
 rt:Rt s
 k:s.k = m.k
 n:s.n ≤ m.n
 same:sameW m.k (toLM s) (toLM m)
 reach:Reach m.k (toLM s)
 obs:Obs m.k (toLM m) → Obs m.k (toLM s)
theorem seenBy_ok {m:Machine} (hm:Rt m) {l:List Row} (b:Basis m l):SeenOk m (seenBy m l) where
 rt:=rt_made ..
 k:=rfl
 n:=b.ech.len
 same:=fun w hw=>(seenBy_red hm b).wt hw
 reach:=(seenBy_red hm b).reach b.ech.indep fun i hi=>by
  have hi:i < l.length:=hi
  have:=(b.words _ (rowK_mem hi).1).words (A:=toLM m)
  rw [(rowK_mem hi).2]
  exact this
 obs:=(seenBy_red hm b).obs b.ech.indep
theorem seen_ok {m:Machine} (hm:Rt m) (hn:m.n ≤ 32) (hk:m.k ≤ 4):SeenOk m (seen m):=seenBy_ok hm (rowsOf_basis hm hn hk)
theorem reach_congr {k:Nat} {A B:LM Kp} (e:LEq k A B) (h:Obs k B):Obs k A:=by
 intro c hc i hi
 refine h c (fun w hw=>?_) i (by rw [← e.n]; exact hi)
 rw [← hc w hw,e.n]
 exact (S_congr fun i hi=>by rw [e.bw hw i (by rw [e.n]; exact hi)]).symm
structure LeastOk (m o:Machine):Prop where
 rt:Rt o
 k:o.k = m.k
 n:o.n ≤ m.n
 same:sameW m.k (toLM o) (toLM m)
 min:Min m.k (toLM o)
theorem two_sides {m s t:Machine} (h1:SeenOk m s) (h2:SeenOk (Rc64.turned s) t):LeastOk m (Rc64.turned t):=by
 have hk2:t.k = m.k:=h2.k.trans h1.k
 have ksame:(Rc64.turned s).k = m.k:=h1.k
 refine ⟨rt_made ..,hk2,Nat.le_trans h2.n h1.n,fun w hw=>?_,?_⟩
 ·rw [wt_turned t (hk2 ▸ hw),h2.same _ (ksame ▸ lets_reverse.2 hw),wt_turned s (h1.k ▸ lets_reverse.2 hw),List.reverse_reverse,h1.same w hw]
 ·have ho:Obs m.k (toLM (Rc64.turned s)):=reach_congr (h1.k ▸ lm_turned s) (reach_tr h1.reach)
  have hr:Reach m.k (toLM t):=ksame ▸ h2.reach
  have hob:Obs m.k (toLM t):=by
   have:=h2.obs
   rw [ksame] at this
   exact this ho
  have hmin:=min_tr (minimal hr hob)
  have e:LEq m.k (toLM (Rc64.turned t)) (tr (toLM t)):=hk2 ▸ lm_turned t
  intro q hq
  have:=hmin q fun w hw=>by rw [← e.wt hw]; exact hq w hw
  exact this
theorem least_ok {m:Machine} (hm:Rt m) (hn:m.n ≤ 32) (hk:m.k ≤ 4):LeastOk m (leastOf m):=by
 have h1:=seen_ok hm hn hk
 have hk1:(seen m).k ≤ 4:=by rw [h1.k]; exact hk
 have h2:SeenOk (Rc64.turned (seen m)) (seen (Rc64.turned (seen m))):=seen_ok (rt_made ..) (Nat.le_trans h1.n hn) hk1
 exact two_sides h1 h2
theorem least_n {m m' o o':Machine} (h:LeastOk m o) (h':LeastOk m' o') (hk:m.k = m'.k) (hs:sameW m.k (toLM m) (toLM m')):o.n = o'.n:=by
 refine Nat.le_antisymm (h.min (toLM o') fun w hw=>?_) (h'.min (toLM o) fun w hw=>?_)
 ·rw [h.same w hw,hs w hw,h'.same w (hk ▸ hw)]
 ·rw [h'.same w hw,← hs w (hk ▸ hw),h.same w (hk ▸ hw)]
end Wm
namespace Wm
open Lean.Grind (CommRing)
open Rc64 (Machine P made right Row taken fresh sooner before parted apartOf)
noncomputable def lt (u v:Wd):Prop:=sooner u v = true
noncomputable def le (u v:Wd):Prop:=u = v ∨ lt u v
theorem lt_iff {u v:Wd}:lt u v ↔ u.length < v.length ∨ (u.length = v.length ∧ before u v = true):=by
 simp [lt,sooner]
theorem before_irrefl:∀ u:Wd,before u u = false
 | []=>rfl
 | a :: u=>by simp [before,before_irrefl u]
theorem before_trans:∀ {u v w:Wd},before u v = true → before v w = true → before u w = true
 | [],_,_,h,_=>by simp [before] at h
 | _ :: _,[],_,h,_=>by simp [before] at h
 | _ :: _,_ :: _,[],_,h=>by simp [before] at h
 | a :: u,b :: v,c :: w,h,g=>by
  simp [before] at h g ⊢
  rcases h with h | ⟨h,h'⟩
  ·rcases g with g | ⟨g,g'⟩
   ·left; omega
   ·left; omega
  ·rcases g with g | ⟨g,g'⟩
   ·left; omega
   ·right; exact ⟨by omega,before_trans h' g'⟩
theorem before_total:∀ {u v:Wd},u.length = v.length → before u v = true ∨ u = v ∨ before v u = true
 | [],[],_=>Or.inr (Or.inl rfl)
 | [],_ :: _,h=>by simp at h
 | _ :: _,[],h=>by simp at h
 | a :: u,b :: v,h=>by
  simp [before]
  rcases Nat.lt_trichotomy a b with x | x | x
  ·exact Or.inl (Or.inl x)
  ·subst x
   rcases before_total (u:=u) (v:=v) (by simpa using h) with y | y | y
   ·exact Or.inl (Or.inr ⟨rfl,y⟩)
   ·exact Or.inr (Or.inl ⟨rfl,y⟩)
   ·exact Or.inr (Or.inr (Or.inr ⟨rfl,y⟩))
  ·exact Or.inr (Or.inr (Or.inl x))
theorem before_app:∀ {u v:Wd} (_:u.length = v.length) (_:before u v = true) (x y:Wd),before (u ++ x) (v ++ y) = true
 | [],_,_,h,_,_=>by simp [before] at h
 | _ :: _,[],_,h,_,_=>by simp [before] at h
 | a :: u,b :: v,hl,h,x,y=>by
  simp [before] at h ⊢
  rcases h with h | ⟨h,h'⟩
  ·exact Or.inl h
  ·exact Or.inr ⟨h,before_app (by simpa using hl) h' x y⟩
theorem before_same:∀ (u:Wd) {x y:Wd},before x y = true → before (u ++ x) (u ++ y) = true
 | [],_,_,h=>h
 | a :: u,_,_,h=>by simp [before,before_same u h]
theorem lt_irrefl (u:Wd):¬ lt u u:=by
 rw [lt_iff,before_irrefl]; simp
theorem lt_trans {u v w:Wd} (h:lt u v) (g:lt v w):lt u w:=by
 rw [lt_iff] at h g ⊢
 rcases h with h | ⟨h,h'⟩
 ·left; rcases g with g | ⟨g,_⟩ <;> omega
 ·rcases g with g | ⟨g,g'⟩
  ·left; omega
  ·right; exact ⟨by omega,before_trans h' g'⟩
theorem lt_total (u v:Wd):lt u v ∨ u = v ∨ lt v u:=by
 rw [lt_iff,lt_iff]
 rcases Nat.lt_trichotomy u.length v.length with h | h | h
 ·exact Or.inl (Or.inl h)
 ·rcases before_total h with x | x | x
  ·exact Or.inl (Or.inr ⟨h,x⟩)
  ·exact Or.inr (Or.inl x)
  ·exact Or.inr (Or.inr (Or.inr ⟨h.symm,x⟩))
 ·exact Or.inr (Or.inr (Or.inl h))
theorem lt_asymm {u v:Wd} (h:lt u v) (g:lt v u):False:=lt_irrefl u (lt_trans h g)
theorem le_refl (u:Wd):le u u:=Or.inl rfl
theorem le_trans {u v w:Wd} (h:le u v) (g:le v w):le u w:=by
 rcases h with h | h
 ·exact h ▸ g
 ·rcases g with g | g
  ·exact g ▸ Or.inr h
  ·exact Or.inr (lt_trans h g)
theorem lt_of_le_lt {u v w:Wd} (h:le u v) (g:lt v w):lt u w:=by
 rcases h with h | h
 ·exact h ▸ g
 ·exact lt_trans h g
theorem lt_of_lt_le {u v w:Wd} (h:lt u v) (g:le v w):lt u w:=by
 rcases g with g | g
 ·exact g ▸ h
 ·exact lt_trans h g
theorem lt_snoc {u v:Wd} (h:lt u v) (a b:Nat):lt (u ++ [a]) (v ++ [b]):=by
 rw [lt_iff] at h ⊢
 rw [List.length_append,List.length_append,List.length_singleton,List.length_singleton]
 rcases h with h | ⟨h,h'⟩
 ·left; omega
 ·right; exact ⟨by omega,before_app h h' [a] [b]⟩
theorem le_snoc {u v:Wd} (h:le u v) (a:Nat):le (u ++ [a]) (v ++ [a]):=by
 rcases h with h | h
 ·exact h ▸ Or.inl rfl
 ·exact Or.inr (lt_snoc h a a)
theorem lt_snoc_self (u:Wd) (a:Nat):lt u (u ++ [a]):=by
 rw [lt_iff]; left; simp
theorem lt_snoc_lt (u:Wd) {a b:Nat} (h:a < b):lt (u ++ [a]) (u ++ [b]):=by
 rw [lt_iff]; right
 exact ⟨by simp,before_same u (by simp [before,h])⟩
theorem nil_le (u:Wd):le [] u:=by
 cases u with
 | nil=>exact Or.inl rfl
 | cons a u=>right; rw [lt_iff]; left; simp
section
variable {K:Type} [CommRing K]
theorem Sp.kill {N:Nat} {X:(Nat → K) → Prop} {l:Nat → K} (h:∀ x,X x → (S N fun i=>x i * l i) = 0) {x:Nat → K} (hx:Sp N X x):(S N fun i=>x i * l i) = 0:=by
 induction hx with
 | mem hx hz=>rw [← h _ hx]; exact S_congr fun i hi=>by rw [hz i hi]
 | zero hz=>exact S_zero' fun i hi=>by rw [hz i hi]; grind
 | @comb x y z c _ _ hz h1 h2 =>
  have:(S N fun i=>z i * l i) = (S N fun i=>x i * l i) + c * S N fun i=>y i * l i:=by
   rw [← S_mul,← S_add]
   exact S_congr fun i hi=>by rw [hz i hi]; grind
  rw [this,h1,h2]; grind
noncomputable def Cov (D:LM K) (acc:Wd → Prop) (z:Wd):Prop:=Sp D.n (fun y=>∃ x,acc x ∧ le x z ∧ y = fw D x) (fw D z)
theorem Cov.mono {D:LM K} {acc acc':Wd → Prop} (h:∀ x,acc x → acc' x) {z:Wd} (c:Cov D acc z):Cov D acc' z :=
 Sp.mono (fun _ ⟨x,hx,hl,e⟩=>Sp.mem ⟨x,h x hx,hl,rfl⟩ fun _ _=>by rw [e]) c
theorem cov_all {D:LM K} {k:Nat} {acc:Wd → Prop} {bound:Wd → Prop} (hb:∀ u v,le u v → bound v → bound u)
  (h0:bound [] → Cov D acc []) (hs:∀ x,acc x → ∀ a,a < k → bound (x ++ [a]) → Cov D acc (x ++ [a])) :
  ∀ (z:Wd),lets k z.reverse → bound z.reverse → Cov D acc z.reverse
 | [],_,h=>h0 h
 | a :: z,hl,h=>by
  rw [List.reverse_cons] at hl h ⊢
  have hl':=lets_append.1 hl
  have ha:a < k:=hl'.2 a (List.mem_singleton.2 rfl)
  have ih:=cov_all hb h0 hs z hl'.1 (hb _ _ (Or.inr (lt_snoc_self _ a)) h)
  unfold Cov
  rw [fw_snoc]
  refine Sp.step a (fun y ⟨x,hx,hle,e⟩=>?_) ih
  rw [e,← fw_snoc]
  have hle':=le_snoc hle a
  exact Sp.mono (fun y ⟨t,ht,hlt,e⟩=>Sp.mem ⟨t,ht,le_trans hlt hle',rfl⟩ fun _ _=>by rw [e]) (hs x hx a ha (hb _ _ hle' h))
theorem cov_wt {D:LM K} {acc:Wd → Prop} (h:∀ x,acc x → wt D x = 0) {z:Wd} (c:Cov D acc z):wt D z = 0:=by
 rw [wt_fw]
 refine Sp.kill (fun y ⟨x,hx,_,e⟩=>?_) c
 rw [e,← wt_fw,h x hx]
noncomputable def dif (A B:LM K):LM K:=⟨A.n + B.n,fun i=>if i < A.n then A.f i else B.f (i - A.n),fun i=>if i < A.n then A.l i else - B.l (i - A.n),
 fun a i j=>if i < A.n then (if j < A.n then A.h a i j else 0) else (if j < A.n then 0 else B.h a (i - A.n) (j - A.n))⟩
theorem dif_fold (A B:LM K):∀ (w:Wd) (x y z:Nat → K),(∀ i,i < A.n → z i = x i) → (∀ i,i < B.n → z (A.n + i) = y i) →
  (∀ i,i < A.n → (w.foldl (fstep (dif A B)) z) i = (w.foldl (fstep A) x) i) ∧ ∀ i,i < B.n → (w.foldl (fstep (dif A B)) z) (A.n + i) = (w.foldl (fstep B) y) i
 | [],_,_,_,h,g=>⟨h,g⟩
 | a :: w,x,y,z,h,g=>by
  rw [List.foldl_cons,List.foldl_cons,List.foldl_cons]
  refine dif_fold A B w _ _ _ (fun j hj=>?_) fun j hj=>?_
  ·show (S (A.n + B.n) fun i=>z i * (if i < A.n then (if j < A.n then A.h a i j else 0) else (if j < A.n then 0 else B.h a (i - A.n) (j - A.n)))) = S A.n fun i=>x i * A.h a i j
   rw [S_append]
   have z0:(S B.n fun i=>z (A.n + i) * (if A.n + i < A.n then (if j < A.n then A.h a (A.n + i) j else 0) else (if j < A.n then 0 else B.h a (A.n + i - A.n) (j - A.n)))) = 0:=S_zero' fun i _=>by
    have:¬ A.n + i < A.n:=by omega
    simp only [this,if_false,hj,if_true]; grind
   rw [z0]
   have:(S A.n fun i=>z i * (if i < A.n then (if j < A.n then A.h a i j else 0) else (if j < A.n then 0 else B.h a (i - A.n) (j - A.n)))) = S A.n fun i=>x i * A.h a i j :=
    S_congr fun i hi=>by simp only [hi,hj,if_true]; rw [h i hi]
   rw [this]; grind
  ·show (S (A.n + B.n) fun i=>z i * (if i < A.n then (if A.n + j < A.n then A.h a i (A.n + j) else 0) else (if A.n + j < A.n then 0 else B.h a (i - A.n) (A.n + j - A.n)))) = S B.n fun i=>y i * B.h a i j
   have hnj:¬ A.n + j < A.n:=by omega
   have hjj:A.n + j - A.n = j:=by omega
   simp only [hnj,if_false,hjj]
   rw [S_append]
   have z0:(S A.n fun i=>z i * (if i < A.n then 0 else B.h a (i - A.n) j)) = 0:=S_zero' fun i hi=>by
    simp only [hi,if_true]; grind
   rw [z0]
   have:(S B.n fun i=>z (A.n + i) * (if A.n + i < A.n then 0 else B.h a (A.n + i - A.n) j)) = S B.n fun i=>y i * B.h a i j :=
    S_congr fun i hi=>by
     have h1:¬ A.n + i < A.n:=by omega
     have h2:A.n + i - A.n = i:=by omega
     simp only [h1,if_false,h2]; rw [g i hi]
   rw [this]; grind
theorem dif_fw (A B:LM K) (w:Wd):(∀ i,i < A.n → fw (dif A B) w i = fw A w i) ∧ ∀ i,i < B.n → fw (dif A B) w (A.n + i) = fw B w i :=
 dif_fold A B w _ _ _ (fun i hi=>by show (if i < A.n then A.f i else _) = _; rw [if_pos hi]) fun i _=>by
  have h1:¬ A.n + i < A.n:=by omega
  have h2:A.n + i - A.n = i:=by omega
  show (if A.n + i < A.n then _ else B.f (A.n + i - A.n)) = _
  rw [if_neg h1,h2]
theorem dif_wt (A B:LM K) (w:Wd):wt (dif A B) w = wt A w - wt B w:=by
 rw [wt_fw,wt_fw,wt_fw]
 show (S (A.n + B.n) fun i=>fw (dif A B) w i * (if i < A.n then A.l i else - B.l (i - A.n))) = _
 rw [S_append]
 have e1:(S A.n fun i=>fw (dif A B) w i * (if i < A.n then A.l i else - B.l (i - A.n))) = S A.n fun i=>fw A w i * A.l i :=
  S_congr fun i hi=>by rw [if_pos hi,(dif_fw A B w).1 i hi]
 have e2:(S B.n fun i=>fw (dif A B) w (A.n + i) * (if A.n + i < A.n then A.l (A.n + i) else - B.l (A.n + i - A.n))) = S B.n fun i=>(-1) * (fw B w i * B.l i) :=
  S_congr fun i hi=>by
   have h1:¬ A.n + i < A.n:=by omega
   have h2:A.n + i - A.n = i:=by omega
   rw [if_neg h1,h2,(dif_fw A B w).2 i hi]; grind
 rw [e1,e2,S_mul]; grind
end
noncomputable def IsApart (k:Nat) (A B:LM Kp):Option Wd → Prop
 | some w=>lets k w ∧ wt A w ≠ wt B w ∧ ∀ z,lets k z → lt z w → wt A z = wt B z
 | none=>∀ z,lets k z → wt A z = wt B z
theorem IsApart.unique {k:Nat} {A B A' B':LM Kp} (hA:sameW k A A') (hB:sameW k B B') {r r':Option Wd} (h:IsApart k A B r) (h':IsApart k A' B' r'):r = r':=by
 cases r with
 | none =>
  cases r' with
  | none=>rfl
  | some w'=>exact absurd (by rw [← hA w' h'.1,← hB w' h'.1]; exact h w' h'.1) h'.2.1
 | some w =>
  cases r' with
  | none=>exact absurd (by rw [hA w h.1,hB w h.1]; exact h' w h.1) h.2.1
  | some w' =>
   rcases lt_total w w' with x | x | x
   ·exact absurd (by rw [hA w h.1,hB w h.1]; exact h'.2.2 w h.1 x) h.2.1
   ·rw [x]
   ·exact absurd (by rw [← hA w' h'.1,← hB w' h'.1]; exact h.2.2 w' h'.1 x) h'.2.1
structure PComes (m o:Machine) (p:Wd × List Nat × List Nat):Prop where
 w:lets m.k p.1
 ul:p.2.1.length = m.n
 ub:below p.2.1
 vl:p.2.2.length = o.n
 vb:below p.2.2
 u:∀ j,j < m.n → vk p.2.1 j = fw (toLM m) p.1 j
 v:∀ j,j < o.n → vk p.2.2 j = fw (toLM o) p.1 j
noncomputable abbrev dd (m o:Machine):LM Kp:=dif (toLM m) (toLM o)
theorem vk_append_left {u v:List Nat} {j:Nat} (h:j < u.length):vk (u ++ v) j = vk u j:=by
 show toK (List.getD _ _ _) = toK (List.getD _ _ _)
 rw [List.getD_eq_getElem?_getD,List.getElem?_append_left h,← List.getD_eq_getElem?_getD]
theorem vk_append_right {u v:List Nat} {j:Nat}:vk (u ++ v) (u.length + j) = vk v j:=by
 show toK (List.getD _ _ _) = toK (List.getD _ _ _)
 rw [List.getD_eq_getElem?_getD,List.getElem?_append_right (by omega),← List.getD_eq_getElem?_getD]
 congr 2
 omega
theorem PComes.both {m o:Machine} {p:Wd × List Nat × List Nat} (h:PComes m o p):∀ j,j < m.n + o.n → vk (p.2.1 ++ p.2.2) j = fw (dd m o) p.1 j:=by
 intro j hj
 by_cases hlt:j < m.n
 ·rw [vk_append_left (by rw [h.ul]; exact hlt),h.u j hlt]
  exact ((dif_fw (toLM m) (toLM o) p.1).1 j hlt).symm
 ·have e:j = m.n + (j - m.n):=by omega
  have h1:=(dif_fw (toLM m) (toLM o) p.1).2 (j - m.n) (show j - m.n < o.n by omega)
  have h2:vk (p.2.1 ++ p.2.2) (p.2.1.length + (j - m.n)) = _:=vk_append_right
  rw [h.ul] at h2
  rw [e]
  rw [h2,h.v _ (by omega)]
  exact h1.symm
theorem PComes.test {m o:Machine} (hm:Rt m) (ho:Rt o) {p:Wd × List Nat × List Nat} (h:PComes m o p):Rc64.dotBy p.2.1 m.last = Rc64.dotBy p.2.2 o.last ↔ wt (dd m o) p.1 = 0:=by
 have e1:toK (Rc64.dotBy p.2.1 m.last) = wt (toLM m) p.1:=by
  rw [toK_dotBy (by rw [h.ul,hm.ll]),h.ul,wt_fw]
  exact S_congr fun i hi=>by rw [h.u i hi]; rfl
 have e2:toK (Rc64.dotBy p.2.2 o.last) = wt (toLM o) p.1:=by
  rw [toK_dotBy (by rw [h.vl,ho.ll]),h.vl,wt_fw]
  exact S_congr fun i hi=>by rw [h.v i hi]; rfl
 rw [dif_wt,← e1,← e2]
 constructor
 ·intro h; rw [h]; grind
 ·intro h
  exact toK_inj (dotBy_lt ..) (dotBy_lt ..) (by grind)
theorem PComes.step {m o:Machine} (hm:Rt m) (ho:Rt o) (hk:m.k = o.k) {p:Wd × List Nat × List Nat} (h:PComes m o p) {a:Nat} (ha:a < m.k) :
  PComes m o (p.1 ++ [a],Rc64.stepBy m p.2.1 a,Rc64.stepBy o p.2.2 a):=by
 have ha':a < o.k:=hk ▸ ha
 have e1:=stepBy_eq hm h.ul ha
 have e2:=stepBy_eq ho h.vl ha'
 rw [e1,e2]
 refine ⟨lets_append.2 ⟨h.w,lets_cons.2 ⟨ha,lets_nil _⟩⟩,step_len ..,step_below m p.2.1 a,step_len ..,step_below o p.2.2 a,fun j hj=>?_,fun j hj=>?_⟩
 ·show vk (Rc64.step m p.2.1 a) j = fw (toLM m) (p.1 ++ [a]) j
  rw [vk_step _ _ _ _ hj,fw_snoc]
  exact S_congr fun i hi=>by rw [h.u i hi]
 ·show vk (Rc64.step o p.2.2 a) j = fw (toLM o) (p.1 ++ [a]) j
  rw [vk_step _ _ _ _ hj,fw_snoc]
  exact S_congr fun i hi=>by rw [h.v i hi]
structure PInv (m o:Machine) (q:List (Wd × List Nat × List Nat)) (l:List Row) (acc:List Wd):Prop where
 ech:Ech (m.n + o.n) l
 qs:∀ p,p ∈ q → PComes m o p
 sorted:q.Pairwise fun p p'=>lt p.1 p'.1
 later:∀ x,x ∈ acc → ∀ p,p ∈ q → lt x p.1
 near:∀ p,p ∈ q → p.1 = [] ∨ ∃ x a,x ∈ acc ∧ p.1 = x ++ [a]
 zero:∀ x,x ∈ acc → wt (dd m o) x = 0
 rows:∀ r,r ∈ l → Sp (m.n + o.n) (fun y=>∃ x,x ∈ acc ∧ y = fw (dd m o) x) (vk r.2)
 first:Cov (dd m o) (· ∈ acc) [] ∨ ∃ p,p ∈ q ∧ p.1 = []
 steps:∀ x,x ∈ acc → ∀ a,a < m.k → Cov (dd m o) (· ∈ acc) (x ++ [a]) ∨ ∃ p,p ∈ q ∧ p.1 = x ++ [a]
theorem PInv.done {m o:Machine} {l:List Row} {acc:List Wd} (h:PInv m o [] l acc):IsApart m.k (toLM m) (toLM o) none:=by
 intro z hz
 have h0:Cov (dd m o) (· ∈ acc) []:=by
  rcases h.first with h | ⟨p,hp,_⟩
  ·exact h
  ·cases hp
 have hs:∀ x,x ∈ acc → ∀ a,a < m.k → Cov (dd m o) (· ∈ acc) (x ++ [a]):=fun x hx a ha=>by
  rcases h.steps x hx a ha with h | ⟨p,hp,_⟩
  ·exact h
  ·cases hp
 have c:=cov_all (D:=dd m o) (k:=m.k) (acc:=(· ∈ acc)) (bound:=fun _=>True) (fun _ _ _ _=>trivial) (fun _=>h0) (fun x hx a ha _=>hs x hx a ha) z.reverse (by rw [List.reverse_reverse]; exact hz) trivial
 rw [List.reverse_reverse] at c
 have:=cov_wt h.zero c
 rw [dif_wt] at this
 grind
theorem PInv.found {m o:Machine} {l:List Row} {acc:List Wd} {p:Wd × List Nat × List Nat} {q:List (Wd × List Nat × List Nat)} (h:PInv m o (p :: q) l acc) (hne:wt (dd m o) p.1 ≠ 0) :
  IsApart m.k (toLM m) (toLM o) (some p.1):=by
 refine ⟨(h.qs p (List.mem_cons_self ..)).w,fun e=>hne (by rw [dif_wt,e]; grind),fun z hz hlt=>?_⟩
 have hq:∀ p',p' ∈ p :: q → le p.1 p'.1:=fun p' hp'=>by
  rcases List.mem_cons.1 hp' with e | e
  ·exact e ▸ le_refl _
  ·exact Or.inr ((List.pairwise_cons.1 h.sorted).1 p' e)
 have h0:lt [] p.1 → Cov (dd m o) (· ∈ acc) []:=fun hb=>by
  rcases h.first with h | ⟨p',hp',e⟩
  ·exact h
  ·exact absurd (lt_of_lt_le hb (hq p' hp')) (e ▸ lt_irrefl _)
 have hs:∀ x,x ∈ acc → ∀ a,a < m.k → lt (x ++ [a]) p.1 → Cov (dd m o) (· ∈ acc) (x ++ [a]):=fun x hx a ha hb=>by
  rcases h.steps x hx a ha with h | ⟨p',hp',e⟩
  ·exact h
  ·exact absurd (lt_of_lt_le hb (hq p' hp')) (e ▸ lt_irrefl _)
 have c:=cov_all (D:=dd m o) (k:=m.k) (acc:=(· ∈ acc)) (bound:=fun z=>lt z p.1) (fun _ _ h g=>lt_of_le_lt h g) h0 hs z.reverse (by rw [List.reverse_reverse]; exact hz) (by rw [List.reverse_reverse]; exact hlt)
 rw [List.reverse_reverse] at c
 have:=cov_wt h.zero c
 rw [dif_wt] at this
 grind
theorem PInv.cov {m o:Machine} {l:List Row} {acc:List Wd} {p:Wd × List Nat × List Nat} {q:List (Wd × List Nat × List Nat)} (h:PInv m o (p :: q) l acc) (hin:InRows (m.n + o.n) l (vk (p.2.1 ++ p.2.2))):Cov (dd m o) (· ∈ acc) p.1:=by
 have hp:=h.qs p (List.mem_cons_self ..)
 have h1:Sp (m.n + o.n) (fun y=>∃ x,x ∈ acc ∧ le x p.1 ∧ y = fw (dd m o) x) (vk (p.2.1 ++ p.2.2)):=by
  refine Sp.mono (fun y ⟨r,hr,e⟩=>?_) hin
  rw [e]
  exact Sp.mono (fun y ⟨x,hx,e⟩=>Sp.mem ⟨x,hx,Or.inr (h.later x hx p (List.mem_cons_self ..)),rfl⟩ fun _ _=>by rw [e]) (h.rows r hr)
 exact h1.congr fun j hj=>(hp.both j hj).symm
theorem PInv.skip {m o:Machine} {l:List Row} {acc:List Wd} {p:Wd × List Nat × List Nat} {q:List (Wd × List Nat × List Nat)} (h:PInv m o (p :: q) l acc) (hin:InRows (m.n + o.n) l (vk (p.2.1 ++ p.2.2))):PInv m o q l acc where
 ech:=h.ech
 qs:=fun u hu=>h.qs u (List.mem_cons_of_mem _ hu)
 sorted:=(List.pairwise_cons.1 h.sorted).2
 later:=fun x hx u hu=>h.later x hx u (List.mem_cons_of_mem _ hu)
 near:=fun u hu=>h.near u (List.mem_cons_of_mem _ hu)
 zero:=h.zero
 rows:=h.rows
 first:=by
  rcases h.first with h' | ⟨p',hp',e⟩
  ·exact Or.inl h'
  ·rcases List.mem_cons.1 hp' with x | x
   ·subst x; exact Or.inl (e ▸ h.cov hin)
   ·exact Or.inr ⟨p',x,e⟩
 steps:=fun u hu a ha=>by
  rcases h.steps u hu a ha with h' | ⟨p',hp',e⟩
  ·exact Or.inl h'
  ·rcases List.mem_cons.1 hp' with x | x
   ·subst x; exact Or.inl (e ▸ h.cov hin)
   ·exact Or.inr ⟨p',x,e⟩
theorem PInv.keep {m o:Machine} (hm:Rt m) (ho:Rt o) (hk:m.k = o.k) {l:List Row} {acc:List Wd} {p:Wd × List Nat × List Nat} {q:List (Wd × List Nat × List Nat)} (h:PInv m o (p :: q) l acc)
  (hz:wt (dd m o) p.1 = 0) {r:Row} (hr:Fresh (m.n + o.n) l (p.2.1 ++ p.2.2) r) :
  PInv m o (q ++ (List.range m.k).map fun a=>(p.1 ++ [a],Rc64.stepBy m p.2.1 a,Rc64.stepBy o p.2.2 a)) (l ++ [r]) (p.1 :: acc):=by
 have hp:=h.qs p (List.mem_cons_self ..)
 have old:∀ {z:Wd},Cov (dd m o) (· ∈ acc) z → Cov (dd m o) (· ∈ p.1 :: acc) z:=fun c=>c.mono fun x hx=>List.mem_cons_of_mem _ hx
 have now:Cov (dd m o) (· ∈ p.1 :: acc) p.1:=Sp.mem ⟨p.1,List.mem_cons_self ..,le_refl _,rfl⟩ fun _ _=>rfl
 have hhead:=(List.pairwise_cons.1 h.sorted).1
 refine ⟨hr.ech,fun u hu=>?_,?_,fun x hx u hu=>?_,fun u hu=>?_,fun x hx=>?_,fun s hs=>?_,?_,fun u hu a ha=>?_⟩
 ·rcases List.mem_append.1 hu with hu | hu
  ·exact h.qs u (List.mem_cons_of_mem _ hu)
  ·obtain ⟨a,ha,e⟩:=List.mem_map.1 hu
   rw [← e]
   exact hp.step hm ho hk (List.mem_range.1 ha)
 ·rw [List.pairwise_append]
  refine ⟨(List.pairwise_cons.1 h.sorted).2,?_,fun u hu v hv=>?_⟩
  ·rw [List.pairwise_map]
   exact List.Pairwise.imp (fun h=>lt_snoc_lt _ h) List.pairwise_lt_range
  ·obtain ⟨a,ha,e⟩:=List.mem_map.1 hv
   rw [← e]
   rcases h.near u (List.mem_cons_of_mem _ hu) with x | ⟨x,b,hx,e2⟩
   ·rw [x]
    exact lt_of_le_lt (nil_le p.1) (lt_snoc_self _ a)
   ·rw [e2]
    exact lt_snoc (h.later x hx p (List.mem_cons_self ..)) b a
 ·have hu':lt p.1 u.1:=by
   rcases List.mem_append.1 hu with hu | hu
   ·exact hhead u hu
   ·obtain ⟨a,ha,e⟩:=List.mem_map.1 hu
    rw [← e]
    exact lt_snoc_self _ a
  rcases List.mem_cons.1 hx with e | hx
  ·exact e ▸ hu'
  ·exact lt_trans (h.later x hx p (List.mem_cons_self ..)) hu'
 ·rcases List.mem_append.1 hu with hu | hu
  ·rcases h.near u (List.mem_cons_of_mem _ hu) with x | ⟨x,b,hx,e2⟩
   ·exact Or.inl x
   ·exact Or.inr ⟨x,b,List.mem_cons_of_mem _ hx,e2⟩
  ·obtain ⟨a,ha,e⟩:=List.mem_map.1 hu
   exact Or.inr ⟨p.1,a,List.mem_cons_self ..,by rw [← e]⟩
 ·rcases List.mem_cons.1 hx with e | hx
  ·exact e ▸ hz
  ·exact h.zero x hx
 ·have olds:∀ s,s ∈ l → Sp (m.n + o.n) (fun y=>∃ x,x ∈ p.1 :: acc ∧ y = fw (dd m o) x) (vk s.2):=fun s hs =>
   Sp.mono (fun y ⟨x,hx,e⟩=>Sp.mem ⟨x,List.mem_cons_of_mem _ hx,rfl⟩ fun _ _=>by rw [e]) (h.rows s hs)
  rcases List.mem_append.1 hs with hs | hs
  ·exact olds s hs
  ·have:s = r:=by simpa using hs
   subst this
   refine Sp.mono (fun y hy=>?_) hr.out
   rcases hy with ⟨t,ht,e⟩ | e
   ·rw [e]; exact olds t ht
   ·rw [e]; exact Sp.mem ⟨p.1,List.mem_cons_self ..,rfl⟩ hp.both
 ·rcases h.first with h' | ⟨p',hp',e⟩
  ·exact Or.inl (old h')
  ·rcases List.mem_cons.1 hp' with x | x
   ·subst x; exact Or.inl (e ▸ now)
   ·exact Or.inr ⟨p',List.mem_append_left _ x,e⟩
 ·rcases List.mem_cons.1 hu with hu | hu
  ·subst hu
   exact Or.inr ⟨_,List.mem_append_right _ (List.mem_map.2 ⟨a,List.mem_range.2 ha,rfl⟩),rfl⟩
  ·rcases h.steps u hu a ha with h' | ⟨p',hp',e⟩
   ·exact Or.inl (old h')
   ·rcases List.mem_cons.1 hp' with x | x
    ·subst x; exact Or.inl (e ▸ now)
    ·exact Or.inr ⟨p',List.mem_append_left _ x,e⟩
theorem parted_ok {m o:Machine} (hm:Rt m) (ho:Rt o) (hk:m.k = o.k):∀ (f:Nat) (q:List (Wd × List Nat × List Nat)) (l:List Row) (acc:List Wd),PInv m o q l acc → q.length + m.k * (m.n + o.n - l.length) ≤ f →
  IsApart m.k (toLM m) (toLM o) (parted m o f q l)
 | 0,q,l,acc,h,hf=>by
  have:q = []:=List.length_eq_zero_iff.1 (by omega)
  subst this
  exact h.done
 | f + 1,[],l,acc,h,_=>h.done
 | f + 1,p :: q,l,acc,h,hf=>by
  have hp:=h.qs p (List.mem_cons_self ..)
  obtain ⟨w,u,v⟩:=p
  rw [List.length_cons] at hf
  rw [parted]
  by_cases ht:Rc64.dotBy u m.last = Rc64.dotBy v o.last
  ·have hz:=(hp.test hm ho).1 ht
   rw [if_neg (fun hx=>hx ht)]
   have hlen:(u ++ v).length = m.n + o.n:=by rw [List.length_append]; exact congr (congrArg _ hp.ul) hp.vl
   rcases fresh_cases h.ech hlen (below_append.2 ⟨hp.ub,hp.vb⟩) with ⟨e,hin⟩ | ⟨r,e,hr⟩
   ·rw [e]
    exact parted_ok hm ho hk f q l acc (h.skip hin) (by omega)
   ·rw [e]
    have hl:=hr.ech.len
    rw [List.length_append,List.length_singleton] at hl
    refine parted_ok hm ho hk f _ _ _ (h.keep hm ho hk hz hr) ?_
    rw [List.length_append,List.length_append,List.length_map,List.length_range,List.length_singleton]
    have:m.k * (m.n + o.n - l.length) = m.k * (m.n + o.n - (l.length + 1)) + m.k:=by
     have:m.n + o.n - l.length = (m.n + o.n - (l.length + 1)) + 1:=by omega
     rw [this,Nat.mul_succ]
    omega
  ·rw [if_pos ht]
   exact h.found fun hz=>ht ((hp.test hm ho).2 hz)
theorem PInv.start {m o:Machine} (hm:Rt m) (ho:Rt o):PInv m o [([],m.first,o.first)] [] [] where
 ech:=trivial
 qs:=fun p hp=>by
  have:p = ([],m.first,o.first):=by simpa using hp
  subst this
  exact ⟨lets_nil _,hm.fl,hm.fb,ho.fl,ho.fb,fun _ _=>rfl,fun _ _=>rfl⟩
 sorted:=List.pairwise_singleton ..
 later:=fun _ h=>by cases h
 near:=fun p hp=>by
  have:p = ([],m.first,o.first):=by simpa using hp
  subst this
  exact Or.inl rfl
 zero:=fun _ h=>by cases h
 rows:=fun _ h=>by cases h
 first:=Or.inr ⟨_,List.mem_singleton.2 rfl,rfl⟩
 steps:=fun _ h=>by cases h
theorem apartOf_ok {m o:Machine} (hm:Rt m) (ho:Rt o) (hk:m.k = o.k) (hmn:m.n ≤ 32) (hon:o.n ≤ 32) (hk4:m.k ≤ 4):IsApart m.k (toLM m) (toLM o) (apartOf m o):=by
 refine parted_ok hm ho hk Rc64.FUEL _ _ _ (PInv.start hm ho) ?_
 have:m.k * (m.n + o.n) ≤ 4 * 64:=Nat.mul_le_mul hk4 (by omega)
 simp only [List.length_singleton,List.length_nil,Nat.sub_zero,Rc64.FUEL]
 omega
end Wm
namespace Wm
open Rc64 (Machine P made right Abs Ans Call at_ put does isSlot isState isLetter making refused roomOf apartOf leastOf)
structure MRel (m' m:Machine):Prop where
 rt':Rt m'
 rt:Rt m
 n:m'.n = m.n
 k:m'.k = m.k
 n32:m.n ≤ 32
 k4:m.k ≤ 4
 same:sameW m.k (toLM m') (toLM m)
structure Fit (m:Machine):Prop where
 rt:Rt m
 n32:m.n ≤ 32
 k4:m.k ≤ 4
theorem MRel.fit' {m' m:Machine} (h:MRel m' m):Fit m':=⟨h.rt',h.n ▸ h.n32,h.k ▸ h.k4⟩
theorem Fit.rel {m:Machine} (h:Fit m):MRel m m:=⟨h.rt,h.rt,rfl,rfl,h.n32,h.k4,fun _ _=>rfl⟩
noncomputable def ORel (h:List Int) (i:Int):Option Machine → Option Machine → Prop
 | none,none=>True
 | some m',some m=>MRel m' m ∧ (i ∉ h → m' = m)
 | _,_=>False
structure StRel (h:List Int) (s' s:Abs):Prop where
 l':s'.slots.length = 8
 l:s.slots.length = 8
 ats:∀ i:Int,ORel h i (at_ s' i) (at_ s i)
theorem ORel.mono {h h2:List Int} {i:Int} {a b:Option Machine} (hr:ORel h i a b) (hs:i ∈ h → i ∈ h2):ORel h2 i a b:=by
 cases a with
 | none=>cases b with
  | none=>trivial
  | some _=>exact hr
 | some m'=>cases b with
  | none=>exact hr
  | some m=>exact ⟨hr.1,fun hn=>hr.2 fun hx=>hn (hs hx)⟩
theorem StRel.mono {h h2:List Int} {s' s:Abs} (r:StRel h s' s) (hs:∀ i,i ∈ h → i ∈ h2):StRel h2 s' s :=
 ⟨r.l',r.l,fun i=>(r.ats i).mono (hs i)⟩
theorem slot_iff {t:Int}:isSlot t = true ↔ 0 ≤ t ∧ t < 8:=by
 unfold Rc64.isSlot Rc64.SLOTS
 exact decide_eq_true_iff
theorem at_put {s:Abs} (hl:s.slots.length = 8) {t:Int} (ht:isSlot t = true) (m:Machine) (i:Int):at_ (put s t m) i = if i = t then some m else at_ s i:=by
 have ht:0 ≤ t ∧ t < 8:=slot_iff.1 ht
 unfold Rc64.at_ Rc64.put
 by_cases hi:i < 0
 ·have:¬ i = t:=by omega
  simp [hi,this]
 ·by_cases e:i = t
  ·subst e
   simp only [hi,if_false,if_true]
   rw [List.getD_eq_getElem?_getD,List.getElem?_set_self (by omega)]
   rfl
  ·simp only [hi,e,if_false]
   rw [List.getD_eq_getElem?_getD,List.getElem?_set_ne (by omega),← List.getD_eq_getElem?_getD]
theorem put_len {s:Abs} (t:Int) (m:Machine) (h:s.slots.length = 8):(put s t m).slots.length = 8:=by
 simp [Rc64.put,h]
theorem at_slot {s:Abs} (hl:s.slots.length = 8) {i:Int} {m:Machine} (h:at_ s i = some m):isSlot i = true:=by
 unfold Rc64.at_ at h
 by_cases hi:i < 0
 ·simp [hi] at h
 ·simp only [hi,if_false] at h
  by_cases h8:i < 8
  ·exact slot_iff.2 ⟨by omega,h8⟩
  ·rw [getD_ge (by omega)] at h
   cases h
theorem StRel.puts {h h2:List Int} {s' s:Abs} (r:StRel h s' s) {t:Int} (ht:isSlot t = true) {m' m:Machine} (hm:MRel m' m) (he:t ∉ h2 → m' = m) (hs:∀ i,i ≠ t → i ∈ h → i ∈ h2) :
  StRel h2 (put s' t m') (put s t m):=by
 refine ⟨put_len _ _ r.l',put_len _ _ r.l,fun i=>?_⟩
 rw [at_put r.l' ht,at_put r.l ht]
 by_cases e:i = t
 ·subst e
  simp only [if_true]
  exact ⟨hm,he⟩
 ·simp only [e,if_false]
  exact (r.ats i).mono (hs i e)
theorem strel_init (h:List Int):StRel h {} {}:=by
 refine ⟨rfl,rfl,fun i=>?_⟩
 have:at_ ({}:Abs) i = none:=by
  unfold Rc64.at_
  by_cases hi:i < 0
  ·simp [hi]
  ·simp only [hi,if_false]
   show (List.replicate 8 none).getD i.toNat none = none
   generalize i.toNat = x
   by_cases h8:x < 8
   ·rw [getD_lt (by simpa using h8)]
    exact List.getElem_replicate ..
   ·exact getD_ge (by rw [List.length_replicate]; omega)
 rw [this]
 trivial
noncomputable def DoesR (s:Abs) (c:Call) (s2:Abs) (a:Ans):Prop:=match c with
 | .least i t=>if isSlot t = false then s2 = s ∧ a = refused else (match at_ s i with
  | none=>s2 = s ∧ a = refused
  | some m=>∃ o,LeastOk m o ∧ s2 = put s t o ∧ a = { value:=(o.n:Nat) })
 | c=>does s c = (s2,a)
theorem fit_set_first {m:Machine} (h:Fit m) (i x:Nat) (hx:x < P):Fit { m with first:=m.first.set i x }:=by
 refine ⟨⟨by simp [h.rt.fl],h.rt.ll,h.rt.hl,?_,h.rt.lb,h.rt.hb⟩,h.n32,h.k4⟩
 intro y hy
 rcases List.mem_or_eq_of_mem_set hy with g | g
 ·exact h.rt.fb y g
 ·exact g ▸ hx
theorem fit_set_last {m:Machine} (h:Fit m) (i x:Nat) (hx:x < P):Fit { m with last:=m.last.set i x }:=by
 refine ⟨⟨h.rt.fl,by simp [h.rt.ll],h.rt.hl,h.rt.fb,?_,h.rt.hb⟩,h.n32,h.k4⟩
 intro y hy
 rcases List.mem_or_eq_of_mem_set hy with g | g
 ·exact h.rt.lb y g
 ·exact g ▸ hx
theorem fit_set_hands {m:Machine} (h:Fit m) (i x:Nat) (hx:x < P):Fit { m with hands:=m.hands.set i x }:=by
 refine ⟨⟨h.rt.fl,h.rt.ll,by simp [h.rt.hl],h.rt.fb,h.rt.lb,?_⟩,h.n32,h.k4⟩
 intro y hy
 rcases List.mem_or_eq_of_mem_set hy with g | g
 ·exact h.rt.hb y g
 ·exact g ▸ hx
theorem making_rel {m' m o' o:Machine} (hm:MRel m' m) (ho:MRel o' o) (kind:Int) :
  (making kind m' o' = none ∧ making kind m o = none) ∨ ∃ q' q,making kind m' o' = some q' ∧ making kind m o = some q ∧ Rt q' ∧ Rt q ∧ q'.n = q.n ∧ q'.k = q.k ∧ q.k ≤ 4 ∧ sameW q.k (toLM q') (toLM q):=by
 unfold Rc64.making
 rw [hm.k,ho.k]
 by_cases hk:m.k = o.k
 ·have hk':¬ m.k ≠ o.k:=fun h=>h hk
  simp only [hk',if_false]
  have so:sameW m.k (toLM o') (toLM o):=hk ▸ ho.same
  by_cases h0:kind = 0
  ·simp only [h0,if_true]
   refine Or.inr ⟨_,_,rfl,rfl,rt_made ..,rt_made ..,?_,hm.k,hm.k4,fun w hw=>?_⟩
   ·show m'.n + o'.n = m.n + o.n
    rw [hm.n,ho.n]
   ·have hw:lets m.k w:=hw
    rw [wt_plus m' o' (hm.k ▸ hw),wt_plus m o hw,hm.same w hw,so w hw]
  by_cases h1:kind = 1
  ·simp only [h1]
   refine Or.inr ⟨_,_,rfl,rfl,rt_made ..,rt_made ..,?_,hm.k,hm.k4,fun w hw=>?_⟩
   ·show m'.n * o'.n = m.n * o.n
    rw [hm.n,ho.n]
   ·have hw:lets m.k w:=hw
    have e1:=wt_times m' o' (hm.k ▸ hw:lets m'.k w)
    have e2:=wt_times m o hw
    rw [hm.same w hw,so w hw] at e1
    exact e1.trans e2.symm
  by_cases h2:kind = 2
  ·simp only [h2]
   refine Or.inr ⟨_,_,rfl,rfl,rt_made ..,rt_made ..,?_,hm.k,hm.k4,fun w hw=>?_⟩
   ·show m'.n + o'.n = m.n + o.n
    rw [hm.n,ho.n]
   ·have hw:lets m.k w:=hw
    have e1:=wt_behind m' o' (hm.k ▸ hw:lets m'.k w)
    have e2:=wt_behind m o hw
    exact e1.trans ((conv_congr so hw hm.same).trans e2.symm)
  by_cases h3:kind = 3
  ·simp only [h3]
   refine Or.inr ⟨_,_,rfl,rfl,rt_made ..,rt_made ..,hm.n,hm.k,hm.k4,fun w hw=>?_⟩
   have hw:lets m.k w:=hw
   have e1:=wt_turned m' (hm.k ▸ hw:lets m'.k w)
   have e2:=wt_turned m hw
   rw [hm.same _ (lets_reverse.2 hw)] at e1
   exact e1.trans e2.symm
  ·simp only [h0,h1,h2,h3,if_false]
   exact Or.inl ⟨by trivial,by trivial⟩
 ·simp only [ne_eq,hk,not_false_iff,if_true]
  exact Or.inl ⟨by trivial,by trivial⟩
theorem StRel.cases {h:List Int} {s' s:Abs} (r:StRel h s' s) (i:Int):(at_ s' i = none ∧ at_ s i = none) ∨ ∃ m' m,at_ s' i = some m' ∧ at_ s i = some m ∧ MRel m' m ∧ (i ∉ h → m' = m):=by
 have:=r.ats i
 cases h':at_ s' i with
 | none=>cases h2:at_ s i with
  | none=>exact Or.inl ⟨rfl,rfl⟩
  | some m=>rw [h',h2] at this; exact this.elim
 | some m'=>cases h2:at_ s i with
  | none=>rw [h',h2] at this; exact this.elim
  | some m=>rw [h',h2] at this; exact Or.inr ⟨m',m,rfl,rfl,this.1,this.2⟩
theorem new_step {h:List Int} {s' s:Abs} (r:StRel h s' s) (t n k:Int) {s2':Abs} {a:Ans} (hd:does s' (.new t n k) = (s2',a)) :
  a = (does s (.new t n k)).2 ∧ StRel (if Rc64Neutral.among n 1 32 = true ∧ Rc64Neutral.among k 1 4 = true then h.filter fun z=>z != t else h) s2' (does s (.new t n k)).1:=by
 have hd:(if isSlot t = false ∨ n < 1 ∨ (Rc64.STATES:Int) < n ∨ k < 1 ∨ (Rc64.LETTERS:Int) < k then (s',refused) else (Rc64.put s' t (made n.toNat k.toNat (fun _=>0) (fun _=>0) fun _ _ _=>0),({ value:=0 }:Ans))) = (s2',a):=hd
 show a = (if isSlot t = false ∨ n < 1 ∨ (Rc64.STATES:Int) < n ∨ k < 1 ∨ (Rc64.LETTERS:Int) < k then (s,refused) else (Rc64.put s t (made n.toNat k.toNat (fun _=>0) (fun _=>0) fun _ _ _=>0),({ value:=0 }:Ans))).2 ∧ StRel _ s2' (if isSlot t = false ∨ n < 1 ∨ (Rc64.STATES:Int) < n ∨ k < 1 ∨ (Rc64.LETTERS:Int) < k then (s,refused) else (Rc64.put s t (made n.toNat k.toNat (fun _=>0) (fun _=>0) fun _ _ _=>0),({ value:=0 }:Ans))).1
 by_cases hc:isSlot t = false ∨ n < 1 ∨ (Rc64.STATES:Int) < n ∨ k < 1 ∨ (Rc64.LETTERS:Int) < k
 ·rw [if_pos hc] at hd ⊢
  obtain ⟨e1,e2⟩:=Prod.mk.inj hd
  subst e1 e2
  refine ⟨rfl,?_⟩
  by_cases ha:Rc64Neutral.among n 1 32 = true ∧ Rc64Neutral.among k 1 4 = true
  ·rw [if_pos ha]
   refine ⟨r.l',r.l,fun i=>?_⟩
   by_cases e:i = t
   ·subst e
    have hs:isSlot i = false:=by
     simp [Rc64Neutral.among] at ha
     simp [Rc64.STATES,Rc64.LETTERS] at hc
     rcases hc with h | h
     ·exact h
     ·omega
    rcases r.cases i with ⟨h1,h2⟩ | ⟨m',m,h1,h2,_⟩
    ·rw [h1,h2]; trivial
    ·have:=at_slot r.l h2
     rw [hs] at this; cases this
   ·exact (r.ats i).mono fun hi=>List.mem_filter.2 ⟨hi,by simpa using e⟩
  ·rw [if_neg ha]; exact r
 ·rw [if_neg hc] at hd ⊢
  obtain ⟨e1,e2⟩:=Prod.mk.inj hd
  subst e1 e2
  refine ⟨rfl,?_⟩
  simp only [not_or] at hc
  have ht:isSlot t = true:=by simpa using hc.1
  have hn:1 ≤ n ∧ n ≤ 32 ∧ 1 ≤ k ∧ k ≤ 4:=by
   have:=hc.2
   simp [Rc64.STATES,Rc64.LETTERS] at this
   omega
  have hf:Fit (made n.toNat k.toNat (fun _=>0) (fun _=>0) fun _ _ _=>0):=⟨rt_made ..,by show n.toNat ≤ 32; omega,by show k.toNat ≤ 4; omega⟩
  refine r.puts ht hf.rel (fun _=>rfl) fun i hi hm=>?_
  by_cases ha:Rc64Neutral.among n 1 32 = true ∧ Rc64Neutral.among k 1 4 = true
  ·rw [if_pos ha]
   exact List.mem_filter.2 ⟨hm,by simpa using hi⟩
  ·rw [if_neg ha]; exact hm
theorem make_step {h:List Int} {s' s:Abs} (r:StRel h s' s) (kind i j t:Int) {s2':Abs} {a:Ans} (hd:does s' (.make kind i j t) = (s2',a)) :
  a = (does s (.make kind i j t)).2 ∧ StRel (if h.contains i = true ∨ h.contains j = true then t :: h else h) s2' (does s (.make kind i j t)).1:=by
 have up:∀ x,x ∈ h → x ∈ (if h.contains i = true ∨ h.contains j = true then t :: h else h):=fun x hx=>by
  by_cases hc:h.contains i = true ∨ h.contains j = true
  ·rw [if_pos hc]; exact List.mem_cons_of_mem _ hx
  ·rw [if_neg hc]; exact hx
 unfold Rc64.does at hd ⊢
 simp only at hd ⊢
 by_cases ht:isSlot t = false
 ·simp only [ht,if_true] at hd ⊢
  obtain ⟨e1,e2⟩:=Prod.mk.inj hd
  subst e1 e2
  exact ⟨rfl,r.mono up⟩
 ·have ht':isSlot t = true:=by simpa using ht
  simp only [ht] at hd ⊢
  rcases r.cases i with ⟨h1,h2⟩ | ⟨m',m,h1,h2,hm,hme⟩
  ·simp only [h1,h2] at hd ⊢
   obtain ⟨e1,e2⟩:=Prod.mk.inj hd
   subst e1 e2
   exact ⟨rfl,r.mono up⟩
  rcases r.cases j with ⟨g1,g2⟩ | ⟨o',o,g1,g2,ho,hoe⟩
  ·simp only [h1,h2,g1,g2] at hd ⊢
   obtain ⟨e1,e2⟩:=Prod.mk.inj hd
   subst e1 e2
   exact ⟨rfl,r.mono up⟩
  simp only [h1,h2,g1,g2] at hd ⊢
  rcases making_rel hm ho kind with ⟨k1,k2⟩ | ⟨q',q,k1,k2,rq',rq,hn,hk,hk4,hs⟩
  ·simp only [k1,k2] at hd ⊢
   obtain ⟨e1,e2⟩:=Prod.mk.inj hd
   subst e1 e2
   exact ⟨rfl,r.mono up⟩
  ·simp only [k1,k2] at hd ⊢
   rw [hn] at hd
   by_cases h32:Rc64.STATES < q.n
   ·simp only [h32,if_true] at hd ⊢
    obtain ⟨e1,e2⟩:=Prod.mk.inj hd
    subst e1 e2
    exact ⟨rfl,r.mono up⟩
   ·simp only [h32,if_false] at hd ⊢
    obtain ⟨e1,e2⟩:=Prod.mk.inj hd
    subst e1 e2
    refine ⟨rfl,r.puts ht' ⟨rq',rq,hn,hk,by simpa [Rc64.STATES] using h32,hk4,hs⟩ (fun hnt=>?_) fun x _ hx=>up x hx⟩
    by_cases hc:h.contains i = true ∨ h.contains j = true
    ·rw [if_pos hc] at hnt
     exact absurd (List.mem_cons_self ..) hnt
    ·have hi:i ∉ h:=fun hx=>hc (Or.inl (by simpa using hx))
     have hj:j ∉ h:=fun hx=>hc (Or.inr (by simpa using hx))
     rw [hme hi,hoe hj,k2] at k1
     exact (Option.some.inj k1).symm
theorem set_step {h:List Int} {s' s:Abs} (r:StRel h s' s) {t:Int} (ht:t ∉ h) (bad:Machine → Prop) [∀ m,Decidable (bad m)] (g:Machine → Machine) (hg:∀ m,Fit m → ¬ bad m → Fit (g m)) {s2':Abs} {a:Ans}
  (hd:(match at_ s' t with
   | none=>(s',refused)
   | some m=>if bad m then (s',refused) else (Rc64.put s' t (g m),({ value:=0 }:Ans))) = (s2',a)) :
  a = (match at_ s t with
   | none=>(s,refused)
   | some m=>if bad m then (s,refused) else (Rc64.put s t (g m),({ value:=0 }:Ans))).2 ∧ StRel h s2' (match at_ s t with
   | none=>(s,refused)
   | some m=>if bad m then (s,refused) else (Rc64.put s t (g m),({ value:=0 }:Ans))).1:=by
 rcases r.cases t with ⟨h1,h2⟩ | ⟨m',m,h1,h2,hm,hme⟩
 ·simp only [h1,h2] at hd ⊢
  obtain ⟨e1,e2⟩:=Prod.mk.inj hd
  subst e1 e2
  exact ⟨rfl,r⟩
 ·have e:=hme ht
  subst e
  simp only [h1,h2] at hd ⊢
  by_cases hb:bad m'
  ·rw [if_pos hb] at hd ⊢
   obtain ⟨e1,e2⟩:=Prod.mk.inj hd
   subst e1 e2
   exact ⟨rfl,r⟩
  ·rw [if_neg hb] at hd ⊢
   obtain ⟨e1,e2⟩:=Prod.mk.inj hd
   subst e1 e2
   exact ⟨rfl,r.puts (at_slot r.l h2) (hg m' hm.fit' hb).rel (fun _=>rfl) fun _ _ hx=>hx⟩
theorem apart_eq {m' m o' o:Machine} (hm:MRel m' m) (ho:MRel o' o) (hk:m.k = o.k):apartOf m' o' = apartOf m o:=by
 have h1:=apartOf_ok hm.rt' ho.rt' (by rw [hm.k,ho.k,hk]) (hm.n ▸ hm.n32) (ho.n ▸ ho.n32) (hm.k ▸ hm.k4)
 have h2:=apartOf_ok hm.rt ho.rt hk hm.n32 ho.n32 hm.k4
 rw [hm.k] at h1
 exact IsApart.unique hm.same (hk ▸ ho.same) h1 h2
inductive CallIs:Rc64Neutral.Call → Call → Prop
 | init:CallIs [[0]] .init
 | new (t n k:Int):CallIs [[1,t,n,k]] (.new t n k)
 | first (t i x:Int):CallIs [[2,t,i,x]] (.first t i x.toNat)
 | last (t i x:Int):CallIs [[3,t,i,x]] (.last t i x.toNat)
 | hand (t a i j x:Int):CallIs [[4,t,a,i,j,x]] (.hand t a i j x.toNat)
 | worth (t n:Int) (w:List Int):CallIs [[5,t,n],w] (.worth t (w.map Int.toNat) n)
 | make (k i j t:Int):CallIs [[6,k,i,j,t]] (.make k i j t)
 | apart (i j r:Int):CallIs [[7,i,j,r]] (.apart i j r)
 | least (i t:Int):CallIs [[8,i,t]] (.least i t)
theorem CallIs.eq {c:Rc64Neutral.Call} {q:Call} (h:CallIs c q):Rc64Neutral.callOf c = some q:=by
 cases h <;> rfl
theorem call_step {h h2:List Int} {s' s s2':Abs} {a:Ans} {c:Rc64Neutral.Call} {q:Call} (r:StRel h s' s) (hh:Rc64Neutral.hidden h c = some h2) (hq:CallIs c q)
  (hd:DoesR s' q s2' a):a = (does s q).2 ∧ StRel h2 s2' (does s q).1:=by
 cases hq with
 | init =>
  have hh:some [] = some h2:=hh
  obtain rfl:=Option.some.inj hh
  have hd:(({}:Abs),({ value:=0 }:Ans)) = (s2',a):=hd
  obtain ⟨e1,e2⟩:=Prod.mk.inj hd
  subst e1 e2
  exact ⟨rfl,strel_init []⟩
 | new t n k =>
  have hh:some _ = some h2:=hh
  obtain rfl:=Option.some.inj hh
  exact new_step r t n k hd
 | first t i x =>
  have hh:(if h.contains t = true then none else some h) = some h2:=hh
  by_cases hc:h.contains t = true
  ·rw [if_pos hc] at hh; cases hh
  ·rw [if_neg hc] at hh
   obtain rfl:=Option.some.inj hh
   exact set_step r (by simpa using hc) (fun m=>isState m i = false ∨ P ≤ x.toNat) (fun m=>{ m with first:=m.first.set i.toNat x.toNat }) (fun m hf hb=>fit_set_first hf _ _ (by
    simp only [not_or] at hb; omega)) hd
 | last t i x =>
  have hh:(if h.contains t = true then none else some h) = some h2:=hh
  by_cases hc:h.contains t = true
  ·rw [if_pos hc] at hh; cases hh
  ·rw [if_neg hc] at hh
   obtain rfl:=Option.some.inj hh
   exact set_step r (by simpa using hc) (fun m=>isState m i = false ∨ P ≤ x.toNat) (fun m=>{ m with last:=m.last.set i.toNat x.toNat }) (fun m hf hb=>fit_set_last hf _ _ (by
    simp only [not_or] at hb; omega)) hd
 | hand t b i j x =>
  have hh:(if h.contains t = true then none else some h) = some h2:=hh
  by_cases hc:h.contains t = true
  ·rw [if_pos hc] at hh; cases hh
  ·rw [if_neg hc] at hh
   obtain rfl:=Option.some.inj hh
   exact set_step r (by simpa using hc) (fun m=>isLetter m b = false ∨ isState m i = false ∨ isState m j = false ∨ P ≤ x.toNat) (fun m=>{ m with hands:=m.hands.set ((b.toNat * m.n + i.toNat) * m.n + j.toNat) x.toNat }) (fun m hf hb=>fit_set_hands hf _ _ (by
    simp only [not_or] at hb; omega)) hd
 | worth t n w =>
  have hh:some h = some h2:=hh
  obtain rfl:=Option.some.inj hh
  unfold DoesR Rc64.does at hd
  unfold Rc64.does
  simp only at hd ⊢
  obtain ⟨e1,e2⟩:=Prod.mk.inj hd
  subst e1 e2
  refine ⟨?_,r⟩
  rcases r.cases t with ⟨h1,h2⟩ | ⟨m',m,h1,h2,hm,hme⟩
  ·simp only [h1,h2]
  ·simp only [h1,h2]
   rw [hm.k]
   by_cases hb:n < 0 ∨ (Rc64.LONG:Int) < n ∨ ((w.map Int.toNat).all fun a=>decide (a < m.k)) = false
   ·rw [if_pos hb,if_pos hb]
   ·rw [if_neg hb,if_neg hb]
    simp only [not_or] at hb
    have hw:lets m.k (w.map Int.toNat):=by
     have:=hb.2.2
     simp only [Bool.not_eq_false,List.all_eq_true,decide_eq_true_eq] at this
     exact this
    rw [worthBy_eq hm.rt' (hm.k ▸ hw),worthBy_eq hm.rt hw,worth_eq_iff.2 (hm.same _ hw)]
 | make kind i j t =>
  have hh:some _ = some h2:=hh
  obtain rfl:=Option.some.inj hh
  exact make_step r kind i j t hd
 | apart i j room =>
  have hh:some h = some h2:=hh
  obtain rfl:=Option.some.inj hh
  unfold DoesR Rc64.does at hd
  unfold Rc64.does
  simp only at hd ⊢
  obtain ⟨e1,e2⟩:=Prod.mk.inj hd
  subst e1 e2
  refine ⟨?_,r⟩
  rcases r.cases i with ⟨h1,h2⟩ | ⟨m',m,h1,h2,hm,_⟩
  ·simp only [h1,h2]
  rcases r.cases j with ⟨g1,g2⟩ | ⟨o',o,g1,g2,ho,_⟩
  ·simp only [h1,h2,g1,g2]
  ·simp only [h1,h2,g1,g2]
   rw [hm.k,ho.k]
   by_cases hk:m.k = o.k
   ·have hk':¬ m.k ≠ o.k:=fun h=>h hk
    rw [if_neg hk',if_neg hk',apart_eq hm ho hk]
   ·rw [if_pos hk,if_pos hk]
 | least i t =>
  have hh:some (t :: h) = some h2:=hh
  obtain rfl:=Option.some.inj hh
  unfold DoesR at hd
  unfold Rc64.does
  simp only at hd ⊢
  by_cases ht:isSlot t = false
  ·simp only [ht,if_true] at hd ⊢
   obtain ⟨e1,e2⟩:=hd
   subst e1 e2
   exact ⟨rfl,r.mono fun _ hx=>List.mem_cons_of_mem _ hx⟩
  ·have ht':isSlot t = true:=by simpa using ht
   simp only [ht] at hd ⊢
   rcases r.cases i with ⟨h1,h2⟩ | ⟨m',m,h1,h2,hm,_⟩
   ·simp only [h1,h2] at hd ⊢
    obtain ⟨e1,e2⟩:=hd
    subst e1 e2
    exact ⟨rfl,r.mono fun _ hx=>List.mem_cons_of_mem _ hx⟩
   ·simp only [h1,h2] at hd ⊢
    obtain ⟨o,hok,e1,e2⟩:=hd
    subst e1 e2
    have hl:=least_ok hm.rt hm.n32 hm.k4
    have hn:o.n = (leastOf m).n:=least_n hok hl hm.k (hm.k.symm ▸ hm.same)
    refine ⟨by rw [hn]; rfl,r.puts ht' ⟨hok.rt,hl.rt,hn,by rw [hok.k,hl.k,hm.k],Nat.le_trans hl.n hm.n32,hl.k ▸ hm.k4,fun w hw=>?_⟩ (fun hx=>absurd (List.mem_cons_self ..) hx) fun _ _ hx=>List.mem_cons_of_mem _ hx⟩
    rw [hl.k] at hw
    rw [hok.same w (hm.k ▸ hw),hm.same w hw,hl.same w hw]
inductive Plays:Abs → List Rc64Neutral.Call → List (List Int) → Prop
 | nil (s:Abs):Plays s [] []
 | cons {s s2:Abs} {c:Rc64Neutral.Call} {q:Call} {a:Ans} {r:List Rc64Neutral.Call} {as:List (List Int)}:CallIs c q → DoesR s q s2 a → Plays s2 r as →
   Plays s (c :: r) ((a.value :: (a.numbers.map fun (x:Nat)=>(x:Int))) :: as)
theorem plays_eq {s':Abs} {cs:List Rc64Neutral.Call} {as:List (List Int)} (p:Plays s' cs as):∀ {h:List Int} {s:Abs},StRel h s' s → Rc64Neutral.clear h cs = true → as = PyFlat.played Rc64Neutral.step s cs:=by
 induction p with
 | nil s=>intro h s0 _ _; rfl
 | @cons s' s2' c q a rest as hq hd _ ih =>
  intro h s r hc
  unfold Rc64Neutral.clear at hc
  cases hh:Rc64Neutral.hidden h c with
  | none=>rw [hh] at hc; cases hc
  | some h2 =>
   rw [hh] at hc
   obtain ⟨e,r2⟩:=call_step r hh hq hd
   have hstep:Rc64Neutral.step s c = ((does s q).1,(does s q).2.value :: ((does s q).2.numbers.map fun (x:Nat)=>(x:Int))):=by
    unfold Rc64Neutral.step
    rw [hq.eq]
   unfold PyFlat.played
   rw [hstep,ih r2 hc,e]
theorem answers_eq {l:List Int} {cs:List Rc64Neutral.Call} {as:List (List Int)} (hc:PyRc64.calls l = some cs) (ha:PyRc64.answers_asked l = true) (p:Plays {} cs as):PyFlat.told as = PyRc64.answers l:=by
 unfold PyRc64.answers_asked at ha
 unfold PyRc64.answers
 rw [hc] at ha ⊢
 simp only [Bool.and_eq_true] at ha
 have hcl:Rc64Neutral.clear [] cs = true:=by
  have:=ha.2
  unfold Rc64Neutral.asked at this
  simp only [Bool.and_eq_true] at this
  exact this.2.2.2
 exact congrArg PyFlat.told (plays_eq p (strel_init []) hcl)
end Wm
namespace Wm
open Rc64 (Machine P made)
theorem list_ext_getD {u v:List Nat} (hl:u.length = v.length) (h:∀ j,j < u.length → u.getD j 0 = v.getD j 0):u = v:=by
 refine List.ext_getElem hl fun i h1 h2=>?_
 have:=h i h1
 rwa [getD_lt h1,getD_lt h2] at this
theorem split3 {k n x:Nat} (h:x < k * n * n):∃ a i j,a < k ∧ i < n ∧ j < n ∧ x = (a * n + i) * n + j:=by
 have hn:0 < n:=Nat.pos_of_ne_zero fun e=>by subst e; simp at h
 refine ⟨x / n / n,x / n % n,x % n,?_,Nat.mod_lt _ hn,Nat.mod_lt _ hn,?_⟩
 ·rw [Nat.div_div_eq_div_mul]
  refine Nat.div_lt_of_lt_mul ?_
  rw [Nat.mul_comm,← Nat.mul_assoc]
  exact h
 ·have e1:=Nat.div_add_mod x n
  have e2:=Nat.div_add_mod (x / n) n
  rw [Nat.mul_comm n (x / n / n)] at e2
  rw [e2,Nat.mul_comm]
  exact e1.symm
theorem mach_ext {m o:Machine} (hm:Rt m) (ho:Rt o) (hn:m.n = o.n) (hk:m.k = o.k) (hf:∀ i,i < m.n → m.f i = o.f i) (hl:∀ i,i < m.n → m.l i = o.l i)
  (hh:∀ a,a < m.k → ∀ i,i < m.n → ∀ j,j < m.n → m.on a i j = o.on a i j):m = o:=by
 have e1:m.first = o.first:=list_ext_getD (by rw [hm.fl,ho.fl,hn]) fun j hj=>hf j (by rw [← hm.fl]; exact hj)
 have e2:m.last = o.last:=list_ext_getD (by rw [hm.ll,ho.ll,hn]) fun j hj=>hl j (by rw [← hm.ll]; exact hj)
 have e3:m.hands = o.hands:=by
  refine list_ext_getD (by rw [hm.hl,ho.hl,hn,hk]) fun x hx=>?_
  rw [hm.hl] at hx
  obtain ⟨a,i,j,ha,hi,hj,e⟩:=split3 hx
  rw [e]
  have:=hh a ha i hi j hj
  unfold Rc64.Machine.on at this
  rw [← hn] at this
  exact this
 cases m; cases o
 simp only at hn hk e1 e2 e3
 subst hn hk e1 e2 e3
 rfl
structure PM where
 n:Nat
 k:Nat
 f:List Nat
 l:List Nat
 h:List (List (List Nat))
noncomputable def PM.mach (m:PM):Machine:=⟨m.n,m.k,m.f,m.l,m.h.flatten.flatten⟩
noncomputable def PM.at3 (m:PM) (a i j:Nat):Nat:=((m.h.getD a []).getD i []).getD j 0
structure PM.Ok (m:PM):Prop where
 fl:m.f.length = m.n
 ll:m.l.length = m.n
 hl:m.h.length = m.k
 ql:∀ q,q ∈ m.h → q.length = m.n
 rl:∀ q,q ∈ m.h → ∀ r,r ∈ q → r.length = m.n
 fb:below m.f
 lb:below m.l
 hb:∀ q,q ∈ m.h → ∀ r,r ∈ q → below r
theorem flatten_len {α:Type} {c:Nat}:∀ {l:List (List α)},(∀ r,r ∈ l → r.length = c) → l.flatten.length = l.length * c
 | [],_=>by simp
 | r :: l,h=>by
  rw [List.flatten_cons,List.length_append,h r (List.mem_cons_self ..),flatten_len fun s hs=>h s (List.mem_cons_of_mem _ hs),List.length_cons,Nat.succ_mul]
  omega
theorem flatten_get {α:Type} {c:Nat}:∀ {l:List (List α)},(∀ r,r ∈ l → r.length = c) → ∀ {i j:Nat},i < l.length → j < c → l.flatten[i * c + j]? = (l[i]?.bind fun r=>r[j]?)
 | [],_,_,_,h,_=>absurd h (by simp)
 | r :: l,h,0,j,_,hj=>by
  rw [List.flatten_cons,Nat.zero_mul,Nat.zero_add,List.getElem?_append_left (by rw [h r (List.mem_cons_self ..)]; exact hj)]
  rfl
 | r :: l,h,i + 1,j,hi,hj=>by
  have hr:=h r (List.mem_cons_self ..)
  rw [List.flatten_cons,List.getElem?_append_right (by rw [hr,Nat.succ_mul]; omega)]
  have e:(i + 1) * c + j - r.length = i * c + j:=by rw [hr,Nat.succ_mul]; omega
  rw [e,flatten_get (fun s hs=>h s (List.mem_cons_of_mem _ hs)) (by simpa using hi) hj]
  rfl
theorem PM.Ok.fql {m:PM} (h:m.Ok):∀ r,r ∈ m.h.flatten → r.length = m.n:=fun r hr=>by
 obtain ⟨q,hq,hrq⟩:=List.mem_flatten.1 hr
 exact h.rl q hq r hrq
theorem PM.Ok.rt {m:PM} (h:m.Ok):Rt m.mach where
 fl:=h.fl
 ll:=h.ll
 hl:=by
  show m.h.flatten.flatten.length = m.k * m.n * m.n
  rw [flatten_len h.fql,flatten_len h.ql,h.hl]
 fb:=h.fb
 lb:=h.lb
 hb:=fun x hx=>by
  obtain ⟨r,hr,hxr⟩:=List.mem_flatten.1 hx
  obtain ⟨q,hq,hrq⟩:=List.mem_flatten.1 hr
  exact h.hb q hq r hrq x hxr
theorem PM.Ok.on {m:PM} (h:m.Ok) {a i j:Nat} (ha:a < m.k) (hi:i < m.n) (hj:j < m.n):m.mach.on a i j = m.at3 a i j:=by
 show (m.h.flatten.flatten).getD ((a * m.n + i) * m.n + j) 0 = ((m.h.getD a []).getD i []).getD j 0
 have hlen:m.h.flatten.length = m.k * m.n:=by rw [flatten_len h.ql,h.hl]
 have ha':a < m.h.length:=by rw [h.hl]; exact ha
 have hi':i < m.h[a].length:=by rw [h.ql _ (List.getElem_mem ha')]; exact hi
 rw [List.getD_eq_getElem?_getD,flatten_get h.fql (by rw [hlen]; exact idx_lt ha hi) hj,flatten_get h.ql ha' hi]
 rw [getD_lt ha',getD_lt hi',List.getElem?_eq_getElem ha']
 show ((m.h[a][i]?).bind fun r=>r[j]?).getD 0 = _
 rw [List.getElem?_eq_getElem hi']
 rfl
noncomputable def set3 (h:List (List (List Nat))) (a i j x:Nat):List (List (List Nat)):=h.set a ((h.getD a []).set i (((h.getD a []).getD i []).set j x))
theorem flatten_set {α:Type} {c:Nat}:∀ {l:List (List α)},(∀ r,r ∈ l → r.length = c) → ∀ {i j:Nat} {x:α},i < l.length → j < c → (l.set i ((l.getD i []).set j x)).flatten = l.flatten.set (i * c + j) x
 | [],_,_,_,_,h,_=>absurd h (by simp)
 | r :: l,h,0,j,x,_,hj=>by
  have hr:=h r (List.mem_cons_self ..)
  show (r.set j x :: l).flatten = _
  rw [List.flatten_cons,List.flatten_cons,Nat.zero_mul,Nat.zero_add,List.set_append_left _ _ (by rw [hr]; exact hj)]
 | r :: l,h,i + 1,j,x,hi,hj=>by
  have hr:=h r (List.mem_cons_self ..)
  show (r :: l.set i ((l.getD i []).set j x)).flatten = _
  rw [List.flatten_cons,List.flatten_cons,List.set_append_right _ _ (by rw [hr,Nat.succ_mul]; omega),flatten_set (fun s hs=>h s (List.mem_cons_of_mem _ hs)) (by simpa using hi) hj]
  have e:(i + 1) * c + j - r.length = i * c + j:=by rw [hr,Nat.succ_mul]; omega
  rw [e]
theorem set3_flat {m:PM} (h:m.Ok) {a i j x:Nat} (ha:a < m.k) (hi:i < m.n) (hj:j < m.n):(set3 m.h a i j x).flatten.flatten = m.h.flatten.flatten.set ((a * m.n + i) * m.n + j) x:=by
 have ha':a < m.h.length:=by rw [h.hl]; exact ha
 have hq:m.h.getD a [] ∈ m.h:=by rw [getD_lt ha']; exact List.getElem_mem ha'
 have hlen:m.h.flatten.length = m.k * m.n:=by rw [flatten_len h.ql,h.hl]
 unfold set3
 rw [flatten_set h.ql ha' hi]
 have e:(m.h.getD a []).getD i [] = m.h.flatten.getD (a * m.n + i) []:=by
  rw [List.getD_eq_getElem?_getD (l:=m.h.flatten),flatten_get h.ql ha' hi,List.getElem?_eq_getElem ha',getD_lt ha',List.getD_eq_getElem?_getD]
  rfl
 rw [e,flatten_set h.fql (by rw [hlen]; exact idx_lt ha hi) hj]
theorem set3_ok {m:PM} (h:m.Ok) {a i j x:Nat} (ha:a < m.k) (hi:i < m.n) (hx:x < P):PM.Ok { m with h:=set3 m.h a i j x }:=by
 have ha':a < m.h.length:=by rw [h.hl]; exact ha
 have hq:m.h.getD a [] ∈ m.h:=by rw [getD_lt ha']; exact List.getElem_mem ha'
 have hi':i < (m.h.getD a []).length:=by rw [h.ql _ hq]; exact hi
 have hr:(m.h.getD a []).getD i [] ∈ m.h.getD a []:=by rw [getD_lt hi']; exact List.getElem_mem hi'
 have q1:∀ q,q ∈ set3 m.h a i j x → q ∈ m.h ∨ q = (m.h.getD a []).set i (((m.h.getD a []).getD i []).set j x):=fun q hq=>List.mem_or_eq_of_mem_set hq
 have r1:∀ r,r ∈ (m.h.getD a []).set i (((m.h.getD a []).getD i []).set j x) → r ∈ m.h.getD a [] ∨ r = ((m.h.getD a []).getD i []).set j x:=fun r hr=>List.mem_or_eq_of_mem_set hr
 refine ⟨h.fl,h.ll,by show (set3 m.h a i j x).length = m.k; unfold set3; rw [List.length_set]; exact h.hl,fun q hm=>?_,fun q hm r hrm=>?_,h.fb,h.lb,fun q hm r hrm=>?_⟩
 ·rcases q1 q hm with z | z
  ·exact h.ql q z
  ·rw [z,List.length_set]; exact h.ql _ hq
 ·rcases q1 q hm with z | z
  ·exact h.rl q z r hrm
  ·rw [z] at hrm
   rcases r1 r hrm with y | y
   ·exact h.rl _ hq r y
   ·rw [y,List.length_set]; exact h.rl _ hq _ hr
 ·rcases q1 q hm with z | z
  ·exact h.hb q z r hrm
  ·rw [z] at hrm
   rcases r1 r hrm with y | y
   ·exact h.hb _ hq r y
   ·rw [y]
    intro v hv
    rcases List.mem_or_eq_of_mem_set hv with u | u
    ·exact h.hb _ hq _ hr v u
    ·exact u ▸ hx
noncomputable def PM.zero (n k:Nat):PM:=⟨n,k,List.replicate n 0,List.replicate n 0,List.replicate k (List.replicate n (List.replicate n 0))⟩
theorem PM.zero_ok (n k:Nat):(PM.zero n k).Ok where
 fl:=List.length_replicate ..
 ll:=List.length_replicate ..
 hl:=List.length_replicate ..
 ql:=fun q hq=>by rw [(List.mem_replicate.1 hq).2]; exact List.length_replicate ..
 rl:=fun q hq r hr=>by
  rw [(List.mem_replicate.1 hq).2] at hr
  rw [(List.mem_replicate.1 hr).2]; exact List.length_replicate ..
 fb:=below_replicate n
 lb:=below_replicate n
 hb:=fun q hq r hr=>by
  rw [(List.mem_replicate.1 hq).2] at hr
  rw [(List.mem_replicate.1 hr).2]; exact below_replicate n
theorem getD_replicate {α:Type} (n i:Nat) (x d:α) (h:i < n):(List.replicate n x).getD i d = x:=by
 rw [getD_lt (by simpa using h),List.getElem_replicate]
theorem PM.zero_mach (n k:Nat):(PM.zero n k).mach = made n k (fun _=>0) (fun _=>0) fun _ _ _=>0:=by
 refine mach_ext (PM.zero_ok n k).rt (rt_made ..) rfl rfl (fun i (hi:i < n)=>?_) (fun i (hi:i < n)=>?_) (fun a (ha:a < k) i (hi:i < n) j (hj:j < n)=>?_)
 ·rw [made_f n k _ _ _ i hi]
  exact getD_replicate n i 0 0 hi
 ·rw [made_l n k _ _ _ i hi]
  exact getD_replicate n i 0 0 hi
 ·rw [made_on n k _ _ _ a i j ha hi hj,(PM.zero_ok n k).on ha hi hj]
  show (((List.replicate k (List.replicate n (List.replicate n 0))).getD a []).getD i []).getD j 0 = _
  rw [getD_replicate k a _ _ ha,getD_replicate n i _ _ hi,getD_replicate n j _ _ hj]
  rfl
end Wm
namespace Wm
theorem parse0 {p:Int} {n:Nat} (hs:PyRc64.shape p = some (n,0)) {r t:List Int} {c:List (List Int)} (h:PyFlat.call PyRc64.shape (p :: r) = some (c,t)):n ≤ r.length ∧ c = [p :: r.take n] ∧ t = r.drop n:=by
 unfold PyFlat.call at h
 simp only [hs] at h
 by_cases hl:r.length < n
 ·rw [if_pos hl] at h; cases h
 ·rw [if_neg hl] at h
  have h:some ((p :: r.take n) :: [],r.drop n) = some (c,t):=h
  obtain ⟨e1,e2⟩:=Prod.mk.inj (Option.some.inj h)
  exact ⟨by omega,e1.symm,e2.symm⟩
theorem parse5 {r t:List Int} {c:List (List Int)} (h:PyFlat.call PyRc64.shape (5 :: r) = some (c,t)):∃ (x:Int) (w:List Int),r = x :: (w.length:Int) :: (w ++ t) ∧ c = [[5,x],w]:=by
 unfold PyFlat.call at h
 have hs:PyRc64.shape 5 = some (1,1):=rfl
 simp only [hs] at h
 match r,h with
 | [],h=>simp at h
 | [x],h=>simp [PyFlat.rows,PyFlat.row] at h
 | x :: n :: r,h =>
  have hl:¬ (x :: n :: r).length < 1:=by simp
  rw [if_neg hl] at h
  by_cases hn:0 ≤ n ∧ n.toNat ≤ r.length
  ·have e:PyFlat.rows 1 (List.drop 1 (x :: n :: r)) = some ([r.take n.toNat],r.drop n.toNat):=by
    show PyFlat.rows 1 (n :: r) = _
    simp [PyFlat.rows,PyFlat.row,hn]
   rw [e] at h
   have h:some ((5 :: [x]) :: [r.take n.toNat],r.drop n.toNat) = some (c,t):=h
   obtain ⟨e1,e2⟩:=Prod.mk.inj (Option.some.inj h)
   refine ⟨x,r.take n.toNat,?_,e1.symm⟩
   have e3:((r.take n.toNat).length:Int) = n:=by
    rw [List.length_take,Nat.min_eq_left hn.2]; omega
   rw [e3,← e2,List.take_append_drop]
  ·have e:PyFlat.rows 1 (List.drop 1 (x :: n :: r)) = none:=by
    show PyFlat.rows 1 (n :: r) = none
    have e0:PyFlat.row (n :: r) = none:=by
     show (if 0 ≤ n ∧ n.toNat ≤ r.length then _ else none) = none
     rw [if_neg hn]
    unfold PyFlat.rows
    rw [e0]
   rw [e] at h
   cases h
theorem take3 {r:List Int} (h:3 ≤ r.length):∃ x y z,r.take 3 = [x,y,z] ∧ r = x :: y :: z :: r.drop 3:=by
 match r,h with
 | x :: y :: z :: r,_=>exact ⟨x,y,z,rfl,rfl⟩
theorem take5 {r:List Int} (h:5 ≤ r.length):∃ x y z u v,r.take 5 = [x,y,z,u,v] ∧ r = x :: y :: z :: u :: v :: r.drop 5:=by
 match r,h with
 | x :: y :: z :: u :: v :: r,_=>exact ⟨x,y,z,u,v,rfl,rfl⟩
theorem take4 {r:List Int} (h:4 ≤ r.length):∃ x y z u,r.take 4 = [x,y,z,u] ∧ r = x :: y :: z :: u :: r.drop 4:=by
 match r,h with
 | x :: y :: z :: u :: r,_=>exact ⟨x,y,z,u,rfl,rfl⟩
theorem take2 {r:List Int} (h:2 ≤ r.length):∃ x y,r.take 2 = [x,y] ∧ r = x :: y :: r.drop 2:=by
 match r,h with
 | x :: y :: r,_=>exact ⟨x,y,rfl,rfl⟩
inductive Reads:Int → List Int → List Int → List (List Int) → Rc64.Call → Prop
 | init (t:List Int):Reads 0 t t [[0]] .init
 | new (s n k:Int) (t:List Int):Reads 1 (s :: n :: k :: t) t [[1,s,n,k]] (.new s n k)
 | first (s i x:Int) (t:List Int):Reads 2 (s :: i :: x :: t) t [[2,s,i,x]] (.first s i x.toNat)
 | last (s i x:Int) (t:List Int):Reads 3 (s :: i :: x :: t) t [[3,s,i,x]] (.last s i x.toNat)
 | hand (s a i j x:Int) (t:List Int):Reads 4 (s :: a :: i :: j :: x :: t) t [[4,s,a,i,j,x]] (.hand s a i j x.toNat)
 | worth (s:Int) (w t:List Int):Reads 5 (s :: (w.length:Int) :: (w ++ t)) t [[5,s,(w.length:Int)],w] (.worth s (w.map Int.toNat) w.length)
 | make (kd i j s:Int) (t:List Int):Reads 6 (kd :: i :: j :: s :: t) t [[6,kd,i,j,s]] (.make kd i j s)
 | apart (i j r:Int) (t:List Int):Reads 7 (i :: j :: r :: t) t [[7,i,j,r]] (.apart i j r)
 | least (i s:Int) (t:List Int):Reads 8 (i :: s :: t) t [[8,i,s]] (.least i s)
theorem reads_of {p:Int} {r t:List Int} {c:List (List Int)} (h:PyFlat.call PyRc64.shape (p :: r) = some (c,t)):∃ q,Reads p r t (PyRc64.whole c) q:=by
 by_cases h0:p = 0
 ·subst h0
  obtain ⟨hl,rfl,rfl⟩:=parse0 (n:=0) rfl h
  exact ⟨_,.init _⟩
 by_cases h1:p = 1
 ·subst h1
  obtain ⟨hl,rfl,rfl⟩:=parse0 (n:=3) rfl h
  obtain ⟨x,y,z,e,e2⟩:=take3 hl
  rw [e,e2]
  exact ⟨_,.new x y z _⟩
 by_cases h2:p = 2
 ·subst h2
  obtain ⟨hl,rfl,rfl⟩:=parse0 (n:=3) rfl h
  obtain ⟨x,y,z,e,e2⟩:=take3 hl
  rw [e,e2]
  exact ⟨_,.first x y z _⟩
 by_cases h3:p = 3
 ·subst h3
  obtain ⟨hl,rfl,rfl⟩:=parse0 (n:=3) rfl h
  obtain ⟨x,y,z,e,e2⟩:=take3 hl
  rw [e,e2]
  exact ⟨_,.last x y z _⟩
 by_cases h4:p = 4
 ·subst h4
  obtain ⟨hl,rfl,rfl⟩:=parse0 (n:=5) rfl h
  obtain ⟨x,y,z,u,v,e,e2⟩:=take5 hl
  rw [e,e2]
  exact ⟨_,.hand x y z u v _⟩
 by_cases h5:p = 5
 ·subst h5
  obtain ⟨x,w,rfl,rfl⟩:=parse5 h
  exact ⟨_,.worth x w t⟩
 by_cases h6:p = 6
 ·subst h6
  obtain ⟨hl,rfl,rfl⟩:=parse0 (n:=4) rfl h
  obtain ⟨x,y,z,u,e,e2⟩:=take4 hl
  rw [e,e2]
  exact ⟨_,.make x y z u _⟩
 by_cases h7:p = 7
 ·subst h7
  obtain ⟨hl,rfl,rfl⟩:=parse0 (n:=3) rfl h
  obtain ⟨x,y,z,e,e2⟩:=take3 hl
  rw [e,e2]
  exact ⟨_,.apart x y z _⟩
 by_cases h8:p = 8
 ·subst h8
  obtain ⟨hl,rfl,rfl⟩:=parse0 (n:=2) rfl h
  obtain ⟨x,y,e,e2⟩:=take2 hl
  rw [e,e2]
  exact ⟨_,.least x y _⟩
 ·have hs:PyRc64.shape p = none:=by
   unfold PyRc64.shape
   simp [h0,h1,h2,h3,h4,h5,h6,h7,h8]
  unfold PyFlat.call at h
  simp only [hs] at h
  cases h
theorem Reads.callOf {p:Int} {r t:List Int} {c:List (List Int)} {q:Rc64.Call} (h:Reads p r t c q):CallIs c q:=by
 cases h <;> constructor
theorem Reads.len {p:Int} {r t:List Int} {c:List (List Int)} {q:Rc64.Call} (h:Reads p r t c q):t.length ≤ r.length:=by
 cases h <;> simp <;> omega
section
variable {r t:List Int} {c:List (List Int)} {q:Rc64.Call}
theorem Reads.i0 (h:Reads 0 r t c q):t = r ∧ c = [[0]] ∧ q = .init:=by
 cases h; exact ⟨rfl,rfl,rfl⟩
theorem Reads.i1 (h:Reads 1 r t c q):∃ s n k,r = s :: n :: k :: t ∧ c = [[1,s,n,k]] ∧ q = .new s n k:=by
 cases h; exact ⟨_,_,_,rfl,rfl,rfl⟩
theorem Reads.i2 (h:Reads 2 r t c q):∃ s i x,r = s :: i :: x :: t ∧ c = [[2,s,i,x]] ∧ q = .first s i x.toNat:=by
 cases h; exact ⟨_,_,_,rfl,rfl,rfl⟩
theorem Reads.i3 (h:Reads 3 r t c q):∃ s i x,r = s :: i :: x :: t ∧ c = [[3,s,i,x]] ∧ q = .last s i x.toNat:=by
 cases h; exact ⟨_,_,_,rfl,rfl,rfl⟩
theorem Reads.i4 (h:Reads 4 r t c q):∃ s a i j x,r = s :: a :: i :: j :: x :: t ∧ c = [[4,s,a,i,j,x]] ∧ q = .hand s a i j x.toNat:=by
 cases h; exact ⟨_,_,_,_,_,rfl,rfl,rfl⟩
theorem Reads.i5 (h:Reads 5 r t c q):∃ (s:Int) (w:List Int),r = s :: (w.length:Int) :: (w ++ t) ∧ c = [[5,s,(w.length:Int)],w] ∧ q = .worth s (w.map Int.toNat) w.length:=by
 cases h; exact ⟨_,_,rfl,rfl,rfl⟩
theorem Reads.i6 (h:Reads 6 r t c q):∃ k i j s,r = k :: i :: j :: s :: t ∧ c = [[6,k,i,j,s]] ∧ q = .make k i j s:=by
 cases h; exact ⟨_,_,_,_,rfl,rfl,rfl⟩
theorem Reads.i7 (h:Reads 7 r t c q):∃ i j m,r = i :: j :: m :: t ∧ c = [[7,i,j,m]] ∧ q = .apart i j m:=by
 cases h; exact ⟨_,_,_,rfl,rfl,rfl⟩
theorem Reads.i8 (h:Reads 8 r t c q):∃ i s,r = i :: s :: t ∧ c = [[8,i,s]] ∧ q = .least i s:=by
 cases h; exact ⟨_,_,rfl,rfl,rfl⟩
end
theorem nat_of {x:Int} {b:Nat} (h:Rc64Neutral.natural x b = true):0 ≤ x:=of_decide_eq_true (Bool.and_eq_true_iff.1 h).1
theorem asked3 {t i x:Int} (h:Rc64Neutral.asked1 [[2,t,i,x]] = true):0 ≤ x:=by
 have h:(Rc64Neutral.whole32 t && (Rc64Neutral.whole32 i && Rc64Neutral.natural x 32)) = true:=h
 exact nat_of (Bool.and_eq_true_iff.1 (Bool.and_eq_true_iff.1 h).2).2
theorem asked5 {t a i j x:Int} (h:Rc64Neutral.asked1 [[4,t,a,i,j,x]] = true):0 ≤ x:=by
 have h:(Rc64Neutral.whole32 t && (Rc64Neutral.whole32 a && (Rc64Neutral.whole32 i && (Rc64Neutral.whole32 j && Rc64Neutral.natural x 32)))) = true:=h
 exact nat_of (Bool.and_eq_true_iff.1 (Bool.and_eq_true_iff.1 (Bool.and_eq_true_iff.1 (Bool.and_eq_true_iff.1 h).2).2).2).2
theorem askedW {t n:Int} {w:List Int} (h:Rc64Neutral.asked1 [[5,t,n],w] = true):(∀ z,z ∈ w → 0 ≤ z) ∧ (n ≤ 200 ∨ 65536 < n) ∧ ((w.length:Int) = if 0 ≤ n ∧ n ≤ 65536 then n else 0):=by
 have h:(Rc64Neutral.whole32 t && (Rc64Neutral.whole32 n && ((w.all fun z=>Rc64Neutral.natural z 8) && (decide (n ≤ 200 ∨ 65536 < n) && decide ((w.length:Int) = if 0 ≤ n ∧ n ≤ 65536 then n else 0))))) = true:=h
 have h:=(Bool.and_eq_true_iff.1 (Bool.and_eq_true_iff.1 h).2).2
 have h2:=Bool.and_eq_true_iff.1 (Bool.and_eq_true_iff.1 h).2
 exact ⟨fun z hz=>nat_of (List.all_eq_true.1 (Bool.and_eq_true_iff.1 h).1 z hz),of_decide_eq_true h2.1,of_decide_eq_true h2.2⟩
inductive Line:List Int → List (List (List Int)) → Prop
 | nil:Line [] []
 | cons {p:Int} {r t:List Int} {c:List (List Int)} {q:Rc64.Call} {cs:List (List (List Int))}:Reads p r t c q → Line t cs → Line (p :: r) (c :: cs)
theorem line_of:∀ (f:Nat) (l:List Int) (cs:List (List (List Int))),PyFlat.calls PyRc64.shape f l = some cs → Line l (cs.map PyRc64.whole)
 | 0,[],cs,h=>by
  have:cs = []:=by simpa [PyFlat.calls] using h.symm
  subst this; exact .nil
 | f + 1,[],cs,h=>by
  have:cs = []:=by simpa [PyFlat.calls] using h.symm
  subst this; exact .nil
 | 0,p :: r,cs,h=>by simp [PyFlat.calls] at h
 | f + 1,p :: r,cs,h=>by
  unfold PyFlat.calls at h
  cases hc:PyFlat.call PyRc64.shape (p :: r) with
  | none=>rw [hc] at h; cases h
  | some x =>
   obtain ⟨c,t⟩:=x
   rw [hc] at h
   simp only at h
   cases hr:PyFlat.calls PyRc64.shape f t with
   | none=>rw [hr] at h; cases h
   | some cs' =>
    rw [hr] at h
    obtain rfl:=Option.some.inj h
    obtain ⟨q,hq⟩:=reads_of hc
    exact .cons hq (line_of f t cs' hr)
theorem line_calls {l:List Int} (h:PyRc64.answers_asked l = true):∃ cs,PyRc64.calls l = some cs ∧ Line l cs ∧ Rc64Neutral.asked cs = true:=by
 unfold PyRc64.answers_asked at h
 cases hc:PyRc64.calls l with
 | none=>rw [hc] at h; cases h
 | some cs =>
  rw [hc] at h
  simp only [Bool.and_eq_true] at h
  refine ⟨cs,rfl,?_,h.2⟩
  unfold PyRc64.calls at hc
  cases hf:PyFlat.calls PyRc64.shape l.length l with
  | none=>rw [hf] at hc; cases hc
  | some cs' =>
   rw [hf] at hc
   obtain rfl:=Option.some.inj hc
   exact line_of _ _ _ hf
end Wm
namespace Wm
open Rc64 (Abs Ans Call does)
theorem room_le (n:Int):Rc64.roomOf n ≤ 65536:=by
 unfold Rc64.roomOf Rc64.LONG
 split <;> omega
theorem does_len (s:Abs) (q:Call) (h:∀ i t,q ≠ .least i t):(does s q).2.numbers.length ≤ 65536:=by
 cases q with
 | init=>exact Nat.zero_le _
 | new t n k =>
  unfold Rc64.does
  simp only
  split <;> exact Nat.zero_le _
 | first t i x =>
  unfold Rc64.does
  simp only
  split
  ·exact Nat.zero_le _
  ·split <;> exact Nat.zero_le _
 | last t i x =>
  unfold Rc64.does
  simp only
  split
  ·exact Nat.zero_le _
  ·split <;> exact Nat.zero_le _
 | hand t a i j x =>
  unfold Rc64.does
  simp only
  split
  ·exact Nat.zero_le _
  ·split <;> exact Nat.zero_le _
 | worth t w n =>
  unfold Rc64.does
  simp only
  split
  ·exact Nat.zero_le _
  ·split <;> exact Nat.zero_le _
 | make k i j t =>
  unfold Rc64.does
  simp only
  split
  ·exact Nat.zero_le _
  ·split
   ·split
    ·exact Nat.zero_le _
    ·split <;> exact Nat.zero_le _
   ·exact Nat.zero_le _
 | apart i j r =>
  unfold Rc64.does
  simp only
  split
  ·split
   ·exact Nat.zero_le _
   ·split
    ·exact Nat.zero_le _
    ·split
     ·exact Nat.zero_le _
     ·rename_i w _ hw
      have:=room_le r
      show w.length ≤ 65536
      omega
  ·exact Nat.zero_le _
 | least i t=>exact absurd rfl (h i t)
theorem doesR_len {s s2:Abs} {q:Call} {a:Ans} (h:DoesR s q s2 a):a.numbers.length ≤ 65536:=by
 cases q with
 | least i t =>
  unfold DoesR at h
  simp only at h
  split at h
  ·rw [h.2]; exact Nat.zero_le _
  ·split at h
   ·rw [h.2]; exact Nat.zero_le _
   ·obtain ⟨o,_,_,e⟩:=h
    rw [e]; exact Nat.zero_le _
 | init=>have e:does s _ = (s2,a):=h; have:=does_len s .init (by intro i t z; cases z); rw [e] at this; exact this
 | new t n k=>have e:does s _ = (s2,a):=h; have:=does_len s (.new t n k) (by intro i t z; cases z); rw [e] at this; exact this
 | first t i x=>have e:does s _ = (s2,a):=h; have:=does_len s (.first t i x) (by intro i t z; cases z); rw [e] at this; exact this
 | last t i x=>have e:does s _ = (s2,a):=h; have:=does_len s (.last t i x) (by intro i t z; cases z); rw [e] at this; exact this
 | hand t b i j x=>have e:does s _ = (s2,a):=h; have:=does_len s (.hand t b i j x) (by intro i t z; cases z); rw [e] at this; exact this
 | worth t w n=>have e:does s _ = (s2,a):=h; have:=does_len s (.worth t w n) (by intro i t z; cases z); rw [e] at this; exact this
 | make k i j t=>have e:does s _ = (s2,a):=h; have:=does_len s (.make k i j t) (by intro i t z; cases z); rw [e] at this; exact this
 | apart i j r=>have e:does s _ = (s2,a):=h; have:=does_len s (.apart i j r) (by intro i t z; cases z); rw [e] at this; exact this
noncomputable def Rest (l:List Int) (s:Abs) (cs:List Rc64Neutral.Call) (acc:List Int):Prop:=∀ as,Plays s cs as → acc ++ PyFlat.told as = PyRc64.answers l
noncomputable def vals (a:Ans):List Int:=a.value :: a.numbers.map fun (x:Nat)=>(x:Int)
theorem Rest.step {l:List Int} {s s2:Abs} {c:Rc64Neutral.Call} {q:Call} {a:Ans} {cs:List Rc64Neutral.Call} {acc:List Int} (h:Rest l s (c :: cs) acc) (hq:CallIs c q) (hd:DoesR s q s2 a) :
  Rest l s2 cs (acc ++ ((vals a).length:Int) :: vals a):=by
 intro as hp
 rw [← h _ (.cons hq hd hp)]
 show _ = acc ++ ((((vals a).length:Int) :: vals a) ++ PyFlat.told as)
 rw [List.append_assoc]
theorem Rest.done {l:List Int} {s:Abs} {acc:List Int} (h:Rest l s [] acc):acc = PyRc64.answers l:=by
 have:=h [] (.nil s)
 simpa [PyFlat.told] using this
theorem Rest.start {l:List Int} {cs:List Rc64Neutral.Call} (hc:PyRc64.calls l = some cs) (ha:PyRc64.answers_asked l = true):Rest l {} cs []:=fun as hp=>by
 rw [List.nil_append]
 exact answers_eq hc ha hp
end Wm
namespace Wm
open Lean.Grind (CommRing)
open Rc64 (Machine P made Row)
noncomputable def mulR (x:Nat) (v:List Nat):List Nat:=(List.range v.length).map fun i=>x * v.getD i 0 % P
noncomputable def subR (u v:List Nat):List Nat:=(List.range u.length).map fun i=>(u.getD i 0 + (P - v.getD i 0)) % P
noncomputable def dotR (u v:List Nat):Nat:=Rc64.dot u.length (fun i=>u.getD i 0) fun i=>v.getD i 0
noncomputable def somR (fs:List Nat) (rows:List (List Nat)) (w:Nat):List Nat:=(List.range w).map fun j=>Rc64.dot fs.length (fun t=>fs.getD t 0) fun t=>(rows.getD t []).getD j 0
noncomputable def pv (l:List Row) (i:Nat):Nat:=(l.getD i (0,[])).1
noncomputable def rw' (l:List Row) (i:Nat):List Nat:=(l.getD i (0,[])).2
noncomputable def facR (l:List Row) (v:List Nat):List Nat:=(List.range l.length).map fun i=>v.getD (pv l i) 0
noncomputable def restR (l:List Row) (v:List Nat):List Nat:=subR v (somR (facR l v) (l.map (·.2)) v.length)
noncomputable def grown (l:List Row) (p:Nat) (fr:List Nat):List Row:=((List.range l.length).map fun i=>(pv l i,subR (rw' l i) (mulR ((rw' l i).getD p 0) fr))) ++ [(p,fr)]
noncomputable def freshR (r:List Nat) (p:Nat):List Nat:=mulR (Rc64.inverse (r.getD p 0)) r
noncomputable def growR (l:List Row) (v:List Nat):Option (List Row):=((restR l v).findIdx? fun a=>a != 0).map fun p=>grown l p (freshR (restR l v) p)
theorem below_rangemod (n:Nat) (g:Nat → Nat):below ((List.range n).map fun i=>g i % P):=below_map_mod g _
theorem mulR_len (x:Nat) (v:List Nat):(mulR x v).length = v.length:=by simp [mulR]
theorem subR_len (u v:List Nat):(subR u v).length = u.length:=by simp [subR]
theorem somR_len (fs:List Nat) (rows:List (List Nat)) (w:Nat):(somR fs rows w).length = w:=by simp [somR]
theorem facR_len (l:List Row) (v:List Nat):(facR l v).length = l.length:=by simp [facR]
theorem restR_len (l:List Row) (v:List Nat):(restR l v).length = v.length:=subR_len ..
theorem mulR_below (x:Nat) (v:List Nat):below (mulR x v):=below_rangemod _ _
theorem subR_below (u v:List Nat):below (subR u v):=below_rangemod _ _
theorem somR_below (fs:List Nat) (rows:List (List Nat)) (w:Nat):below (somR fs rows w):=by
 intro x hx
 obtain ⟨j,_,e⟩:=List.mem_map.1 hx
 rw [← e]
 exact Nat.mod_lt _ P_pos
theorem facR_below {l:List Row} {v:List Nat} (h:below v):below (facR l v):=by
 intro x hx
 obtain ⟨j,_,e⟩:=List.mem_map.1 hx
 rw [← e]
 exact below_getD h _
theorem vk_range (n:Nat) (g:Nat → Nat) {j:Nat} (hj:j < n):vk ((List.range n).map g) j = toK (g j):=by
 show toK (List.getD _ _ _) = _
 rw [getD_map_range _ _ _ hj]
theorem vk_mulR (x:Nat) (v:List Nat) {j:Nat} (hj:j < v.length):vk (mulR x v) j = toK x * vk v j:=by
 unfold mulR
 rw [vk_range _ _ hj,toK_mod,toK_mul]
 rfl
theorem vk_subR {u v:List Nat} (hv:below v) {j:Nat} (hj:j < u.length):vk (subR u v) j = vk u j - vk v j:=by
 unfold subR
 rw [vk_range _ _ hj,toK_mod,toK_add,toK_neg (Nat.le_of_lt (below_getD hv j))]
 show vk u j + - vk v j = _
 grind
theorem toK_dotR (u v:List Nat):toK (dotR u v) = S u.length fun i=>vk u i * vk v i:=toK_dot ..
theorem dotR_lt (u v:List Nat):dotR u v < P:=Nat.mod_lt _ P_pos
theorem vk_somR (fs:List Nat) (rows:List (List Nat)) (w:Nat) {j:Nat} (hj:j < w):vk (somR fs rows w) j = S fs.length fun t=>vk fs t * vk (rows.getD t []) j:=by
 unfold somR
 rw [vk_range _ _ hj,toK_dot]
 rfl
theorem vk_facR (l:List Row) (v:List Nat) {i:Nat} (hi:i < l.length):vk (facR l v) i = vk v (pv l i):=by
 unfold facR
 rw [vk_range _ _ hi]
 rfl
structure RE (N:Nat) (l:List Row):Prop where
 mem:∀ i,i < l.length → (rw' l i).length = N ∧ below (rw' l i) ∧ pv l i < N
 one:∀ i j,i < l.length → j < l.length → rowK l i (pv l j) = if i = j then 1 else 0
theorem RE.nil (N:Nat):RE N []:=⟨fun _ h=>absurd h (by simp),fun _ _ h=>absurd h (by simp)⟩
theorem RE.tail {N:Nat} {r:Row} {l:List Row} (h:RE N (r :: l)):RE N l:=by
 refine ⟨fun i hi=>h.mem (i + 1) (by simpa using hi),fun i j hi hj=>?_⟩
 have:=h.one (i + 1) (j + 1) (by simpa using hi) (by simpa using hj)
 rw [rowK_cons] at this
 have e:pv (r :: l) (j + 1) = pv l j:=rfl
 rw [e] at this
 rw [this]
 by_cases h:i = j
 ·subst h; simp
 ·rw [if_neg h,if_neg (by omega)]
theorem RE.ech {N:Nat}:∀ {l:List Row},RE N l → Ech N l
 | [],_=>trivial
 | r :: l,h=>by
  have h0:=h.mem 0 (by simp)
  refine ⟨h0.1,h0.2.1,h0.2.2,?_,fun s hs=>?_,RE.ech h.tail⟩
  ·have:=h.one 0 0 (by simp) (by simp)
   rwa [if_pos rfl] at this
  ·obtain ⟨i,hi,e⟩:=List.mem_iff_getElem.1 hs
   have:=h.one (i + 1) 0 (by simpa using hi) (by simp)
   rw [if_neg (by omega),rowK_cons,(rowK_mem hi).2,e] at this
   exact this
theorem mem_rw {l:List Row} {i:Nat} (hi:i < l.length):∃ r,r ∈ l ∧ rw' l i = r.2 ∧ pv l i = r.1:=⟨l[i],List.getElem_mem hi,by unfold rw'; rw [getD_lt hi],by unfold pv; rw [getD_lt hi]⟩
theorem rw_map {l:List Row} {t:Nat} (ht:t < l.length):(l.map (·.2)).getD t [] = rw' l t:=by
 unfold rw'
 rw [getD_lt (by simpa using ht),getD_lt ht,List.getElem_map]
theorem rest_vk {N:Nat} {l:List Row} (h:RE N l) {v:List Nat} (hv:v.length = N) {j:Nat} (hj:j < N):vk (restR l v) j = vk v j - S l.length fun i=>vk v (pv l i) * rowK l i j:=by
 unfold restR
 rw [vk_subR (somR_below _ _ _) (by omega),vk_somR _ _ _ (by omega),facR_len]
 congr 1
 refine S_congr fun i hi=>?_
 rw [vk_facR _ _ hi,rw_map hi]
 rfl
theorem RE.sum_piv {N:Nat} {l:List Row} (h:RE N l) (c:Nat → Kp) {s:Nat} (hs:s < l.length):(S l.length fun i=>c i * rowK l i (pv l s)) = c s:=by
 have:(S l.length fun i=>c i * rowK l i (pv l s)) = S l.length fun i=>if i = s then c i else 0:=S_congr fun i hi=>by
  rw [h.one i s hi hs]
  by_cases e:i = s
  ·rw [if_pos e,if_pos e]; grind
  ·rw [if_neg e,if_neg e]; grind
 rw [this,S_delta,if_pos hs]
theorem rest_piv {N:Nat} {l:List Row} (h:RE N l) {v:List Nat} (hv:v.length = N) {s:Nat} (hs:s < l.length):vk (restR l v) (pv l s) = 0:=by
 rw [rest_vk h hv (h.mem s hs).2.2,h.sum_piv _ hs]; grind
theorem rowK_in {N:Nat} {l:List Row} {i:Nat} (hi:i < l.length):InRows N l (rowK l i):=Sp.mem ⟨l[i],List.getElem_mem hi,rfl⟩ fun _ _=>by rw [(rowK_mem hi).2]
theorem sum_in {N:Nat} {l l':List Row} (h:∀ i,i < l.length → InRows N l' (rowK l i)) (c:Nat → Kp):InRows N l' fun j=>S l.length fun i=>c i * rowK l i j:=Sp.sum (rowK l) c l.length h
theorem RE.whole {N:Nat} {l:List Row} (h:RE N l) {v:List Nat} (hin:InRows N l (vk v)) {j:Nat} (hj:j < N):(S l.length fun i=>vk (facR l v) i * rowK l i j) = vk v j:=by
 obtain ⟨c,hc⟩:=hin.coeffs
 rw [hc j hj]
 refine S_congr fun i hi=>?_
 rw [vk_facR _ _ hi,hc _ (h.mem i hi).2.2,h.sum_piv c hi]
theorem grow_none {N:Nat} {l:List Row} (h:RE N l) {v:List Nat} (hv:v.length = N) (hn:growR l v = none):InRows N l (vk v):=by
 unfold growR at hn
 have hn:((restR l v).findIdx? fun a=>a != 0) = none:=by simpa using hn
 have h0:∀ a,a ∈ restR l v → a = 0:=by simpa using hn
 refine (sum_in (N:=N) (l:=l) (fun i hi=>rowK_in hi) fun i=>vk v (pv l i)).congr fun j hj=>?_
 have e:=rest_vk h hv hj
 have z:vk (restR l v) j = 0:=by
  have hj':j < (restR l v).length:=by rw [restR_len]; omega
  show toK (List.getD _ _ _) = 0
  rw [getD_lt hj',h0 _ (List.getElem_mem hj'),toK_zero]
 rw [z] at e
 grind
structure Grown (N:Nat) (l:List Row) (v:List Nat) (l':List Row):Prop where
 re:RE N l'
 len:l'.length = l.length + 1
 inn:InRows N l' (vk v)
 old:∀ i,i < l.length → InRows N l' (rowK l i)
 out:∀ r,r ∈ l' → Sp N (fun y=>(∃ s,s ∈ l ∧ y = vk s.2) ∨ y = vk v) (vk r.2)
theorem grown_len (l:List Row) (p:Nat) (fr:List Nat):(grown l p fr).length = l.length + 1:=by simp [grown]
theorem grown_lt (l:List Row) (p:Nat) (fr:List Nat) {i:Nat} (hi:i < l.length):(grown l p fr).getD i (0,[]) = (pv l i,subR (rw' l i) (mulR ((rw' l i).getD p 0) fr)):=by
 unfold grown
 rw [List.getD_eq_getElem?_getD,List.getElem?_append_left (by simpa using hi),← List.getD_eq_getElem?_getD,getD_map_range' _ _ _ _ hi]
theorem grown_last (l:List Row) (p:Nat) (fr:List Nat):(grown l p fr).getD l.length (0,[]) = (p,fr):=by
 unfold grown
 rw [List.getD_eq_getElem?_getD,List.getElem?_append_right (by simp)]
 simp
theorem grow_some {N:Nat} {l:List Row} (h:RE N l) {v:List Nat} (hv:v.length = N) (hb:below v) {l':List Row} (hs:growR l v = some l'):Grown N l v l':=by
 unfold growR at hs
 cases hf:((restR l v).findIdx? fun a=>a != 0) with
 | none=>rw [hf] at hs; cases hs
 | some p =>
  rw [hf] at hs
  have hs:grown l p (freshR (restR l v) p) = l':=Option.some.inj hs
  subst hs
  obtain ⟨hp,hne,_⟩:=List.findIdx?_eq_some_iff_getElem.1 hf
  have hpN:p < N:=by rw [restR_len] at hp; omega
  have hrb:below (restR l v):=subR_below _ _
  have hne:(restR l v).getD p 0 ≠ 0:=by rw [getD_lt hp]; simpa using hne
  have hx0:vk (restR l v) p ≠ 0:=toK_ne_zero (below_getD hrb p) hne
  have hinv:vk (restR l v) p * toK (Rc64.inverse ((restR l v).getD p 0)) = 1:=toK_inverse hx0
  have hfr:∀ j,j < N → vk (freshR (restR l v) p) j = toK (Rc64.inverse ((restR l v).getD p 0)) * vk (restR l v) j:=fun j hj=>vk_mulR _ _ (by rw [restR_len]; omega)
  have hfl:(freshR (restR l v) p).length = N:=by rw [freshR,mulR_len,restR_len,hv]
  have hfb:below (freshR (restR l v) p):=mulR_below _ _
  have hfp:vk (freshR (restR l v) p) p = 1:=by rw [hfr p hpN]; grind
  have hfv:∀ s,s < l.length → vk (freshR (restR l v) p) (pv l s) = 0:=fun s hs=>by rw [hfr _ (h.mem s hs).2.2,rest_piv h hv hs]; grind
  have hrest:=fun j (hj:j < N)=>rest_vk h hv hj
  generalize hF:freshR (restR l v) p = fr at *
  have hrow:∀ i,i < l.length → ∀ j,j < N → rowK (grown l p fr) i j = rowK l i j - rowK l i p * vk fr j:=fun i hi j hj=>by
   unfold rowK
   rw [grown_lt _ _ _ hi]
   show vk (subR (rw' l i) (mulR ((rw' l i).getD p 0) fr)) j = _
   rw [vk_subR (mulR_below _ _) (by rw [(h.mem i hi).1]; exact hj),vk_mulR _ _ (by omega)]
   rfl
  have hlast:rowK (grown l p fr) l.length = vk fr:=by unfold rowK; rw [grown_last]
  have hpv:∀ i,i < l.length → pv (grown l p fr) i = pv l i:=fun i hi=>by unfold pv; rw [grown_lt _ _ _ hi]; rfl
  have hpl:pv (grown l p fr) l.length = p:=by unfold pv; rw [grown_last]
  have hlen:=grown_len l p fr
  have hinF:InRows N (grown l p fr) (vk fr):=by
   have:=rowK_in (N:=N) (l:=grown l p fr) (i:=l.length) (by omega)
   rwa [hlast] at this
  have hold:∀ i,i < l.length → InRows N (grown l p fr) (rowK l i):=fun i hi =>
   Sp.comb (rowK l i p) (rowK_in (i:=i) (by omega)) hinF fun j hj=>by rw [hrow i hi j hj]; grind
  have hrs:∀ j,j < N → vk (restR l v) j = vk (restR l v) p * vk fr j:=fun j hj=>by rw [hfr j hj]; grind
  have hsv:Sp N (fun y=>(∃ s,s ∈ l ∧ y = vk s.2) ∨ y = vk v) (fun j=>S l.length fun i=>vk v (pv l i) * rowK l i j):=Sp.sum (rowK l) _ l.length fun i hi=>Sp.mem (Or.inl ⟨l[i],List.getElem_mem hi,rfl⟩) fun _ _=>by rw [(rowK_mem hi).2]
  have hsf:Sp N (fun y=>(∃ s,s ∈ l ∧ y = vk s.2) ∨ y = vk v) (vk fr):=by
   have h1:Sp N (fun y=>(∃ s,s ∈ l ∧ y = vk s.2) ∨ y = vk v) (vk (restR l v)):=Sp.comb (-1) (Sp.mem (Or.inr rfl) fun _ _=>rfl) hsv fun j hj=>by rw [hrest j hj]; grind
   exact h1.smul _ hfr
  refine ⟨⟨fun i hi=>?_,fun i j hi hj=>?_⟩,hlen,?_,hold,fun r hr=>?_⟩
  ·rw [hlen] at hi
   by_cases e:i = l.length
   ·subst e
    unfold rw' pv
    rw [grown_last]
    exact ⟨hfl,hfb,hpN⟩
   ·have hi:i < l.length:=by omega
    rw [hpv i hi]
    unfold rw'
    rw [grown_lt _ _ _ hi]
    exact ⟨by rw [subR_len]; exact (h.mem i hi).1,subR_below _ _,(h.mem i hi).2.2⟩
  ·rw [hlen] at hi hj
   by_cases ei:i = l.length
   ·subst ei
    rw [hlast]
    by_cases ej:j = l.length
    ·subst ej; rw [hpl,if_pos rfl]; exact hfp
    ·rw [hpv j (by omega),if_neg (by omega)]; exact hfv j (by omega)
   ·have hi:i < l.length:=by omega
    by_cases ej:j = l.length
    ·subst ej; rw [hpl,if_neg ei,hrow i hi p hpN,hfp]; grind
    ·have hj:j < l.length:=by omega
     rw [hpv j hj,hrow i hi _ (h.mem j hj).2.2,h.one i j hi hj,hfv j hj]; grind
  ·refine Sp.comb (vk (restR l v) p) (sum_in hold fun i=>vk v (pv l i)) hinF fun j hj=>?_
   rw [← hrs j hj,hrest j hj]; grind
  ·obtain ⟨i,hi,e⟩:=List.mem_iff_getElem.1 hr
   have e2:vk r.2 = rowK (grown l p fr) i:=by rw [(rowK_mem hi).2,e]
   rw [e2]
   rw [hlen] at hi
   by_cases ei:i = l.length
   ·subst ei; rw [hlast]; exact hsf
   ·have hi:i < l.length:=by omega
    refine Sp.comb (- rowK l i p) (Sp.mem (Or.inl ⟨l[i],List.getElem_mem hi,rfl⟩) fun _ _=>rfl) hsf fun j hj=>?_
    rw [hrow i hi j hj,(rowK_mem hi).2]; grind
end Wm
namespace Wm
open Rc64 (Machine P made Row)
structure RSt where
 l:List Row
 ws:List Wd
 hs:List (List Nat)
noncomputable def look (s:RSt) (w:Wd) (v:List Nat):RSt:=match growR s.l v with
 | none=>s
 | some l'=>⟨l',s.ws ++ [w],s.hs ++ [v]⟩
structure HoldsW (m:Machine) (w:Wd) (v:List Nat):Prop where
 len:v.length = m.n
 b:below v
 ls:lets m.k w
 eq:∀ j,j < m.n → vk v j = fw (toLM m) w j
theorem HoldsW.nil {m:Machine} (hm:Rt m):HoldsW m [] m.first:=⟨hm.fl,hm.fb,lets_nil _,fun _ _=>rfl⟩
theorem HoldsW.step {m:Machine} {w:Wd} {v:List Nat} (h:HoldsW m w v) {a:Nat} (ha:a < m.k):HoldsW m (w ++ [a]) (Rc64.step m v a):=by
 refine ⟨step_len ..,step_below m v a,lets_append.2 ⟨h.ls,lets_cons.2 ⟨ha,lets_nil _⟩⟩,fun j hj=>?_⟩
 rw [vk_step _ _ _ _ hj,fw_snoc]
 exact S_congr fun i hi=>by rw [h.eq i hi]
structure RI (m:Machine) (L:Wd → Prop) (s:RSt):Prop where
 re:RE m.n s.l
 lw:s.ws.length = s.l.length
 lh:s.hs.length = s.ws.length
 hold:∀ (i:Nat) (w:Wd) (v:List Nat),s.ws[i]? = some w → s.hs[i]? = some v → HoldsW m w v
 sorted:s.ws.Pairwise lt
 inL:∀ w,w ∈ s.ws → L w
 rows:∀ r,r ∈ s.l → Sp m.n (fun y=>∃ w,w ∈ s.ws ∧ y = fw (toLM m) w) (vk r.2)
 inr:∀ w,w ∈ s.ws → InRows m.n s.l (fw (toLM m) w)
 cov:∀ z,L z → Cov (toLM m) (· ∈ s.ws) z
theorem RI.congr {m:Machine} {L L':Wd → Prop} {s:RSt} (h:RI m L s) (e:∀ z,L z ↔ L' z):RI m L' s :=
 ⟨h.re,h.lw,h.lh,h.hold,h.sorted,fun w hw=>(e w).1 (h.inL w hw),h.rows,h.inr,fun z hz=>h.cov z ((e z).2 hz)⟩
theorem RI.empty (m:Machine):RI m (fun _=>False) ⟨[],[],[]⟩ :=
 ⟨RE.nil _,rfl,rfl,fun i w v h=>(by simp at h),List.Pairwise.nil,fun w hw=>(by cases hw),fun r hr=>(by cases hr),fun w hw=>(by cases hw),fun z hz=>hz.elim⟩
theorem get_snoc {α:Type} {l:List α} {x y:α} {i:Nat} (h:(l ++ [x])[i]? = some y):l[i]? = some y ∨ (i = l.length ∧ x = y):=by
 by_cases hi:i < l.length
 ·rw [List.getElem?_append_left hi] at h; exact .inl h
 ·by_cases e:i = l.length
  ·subst e
   rw [List.getElem?_append_right (Nat.le_refl _),Nat.sub_self] at h
   exact .inr ⟨rfl,Option.some.inj h⟩
  ·rw [List.getElem?_eq_none (by simp; omega)] at h; cases h
theorem RI.look {m:Machine} {L:Wd → Prop} {s:RSt} (h:RI m L s) {w:Wd} {v:List Nat} (hv:HoldsW m w v) (hlt:∀ x,x ∈ s.ws → lt x w):RI m (fun z=>L z ∨ z = w) (look s w v):=by
 unfold Wm.look
 cases hg:growR s.l v with
 | none =>
  have hin:=grow_none h.re hv.len hg
  refine ⟨h.re,h.lw,h.lh,h.hold,h.sorted,fun w hw=>.inl (h.inL w hw),h.rows,h.inr,fun z hz=>?_⟩
  rcases hz with hz | rfl
  ·exact h.cov z hz
  ·have h1:Sp m.n (fun y=>∃ x,x ∈ s.ws ∧ le x z ∧ y = fw (toLM m) x) (vk v):=by
    refine Sp.mono (fun y ⟨r,hr,e⟩=>?_) hin
    rw [e]
    exact Sp.mono (fun y ⟨x,hx,e⟩=>Sp.mem ⟨x,hx,Or.inr (hlt x hx),rfl⟩ fun _ _=>by rw [e]) (h.rows r hr)
   exact h1.congr fun j hj=>(hv.eq j hj).symm
 | some l' =>
  have G:=grow_some h.re hv.len hv.b hg
  have hmono:∀ x,InRows m.n s.l x → InRows m.n l' x:=fun x hx=>Sp.mono (fun y ⟨r,hr,e⟩=>by
   obtain ⟨i,hi,ei⟩:=List.mem_iff_getElem.1 hr
   have:=G.old i hi
   rw [(rowK_mem hi).2,ei,← e] at this
   exact this) hx
  refine ⟨G.re,?_,?_,fun i w' v' hw' hv'=>?_,?_,fun w' hw'=>?_,fun r hr=>?_,fun w' hw'=>?_,fun z hz=>?_⟩
  ·show (s.ws ++ [w]).length = l'.length
   rw [List.length_append,h.lw,G.len]; rfl
  ·show (s.hs ++ [v]).length = (s.ws ++ [w]).length
   rw [List.length_append,List.length_append,h.lh]; rfl
  ·rcases get_snoc hw' with e1 | ⟨e1,e2⟩
   ·rcases get_snoc hv' with f1 | ⟨f1,f2⟩
    ·exact h.hold i w' v' e1 f1
    ·have:=(List.getElem?_eq_some_iff.mp e1).1
     have:=h.lh
     omega
   ·rcases get_snoc hv' with f1 | ⟨f1,f2⟩
    ·have:=(List.getElem?_eq_some_iff.mp f1).1
     have:=h.lh
     omega
    ·subst e2 f2; exact hv
  ·refine List.pairwise_append.2 ⟨h.sorted,List.pairwise_singleton _ _,fun x hx y hy=>?_⟩
   have:y = w:=by simpa using hy
   rw [this]; exact hlt x hx
  ·rcases List.mem_append.1 hw' with z | z
   ·exact .inl (h.inL w' z)
   ·exact .inr (by simpa using z)
  ·refine Sp.mono (fun y hy=>?_) (G.out r hr)
   rcases hy with ⟨q,hq,e⟩ | e
   ·rw [e]
    exact Sp.mono (fun y ⟨x,hx,e⟩=>Sp.mem ⟨x,List.mem_append_left _ hx,rfl⟩ fun _ _=>by rw [e]) (h.rows q hq)
   ·rw [e]
    exact Sp.mem ⟨w,List.mem_append_right _ (List.mem_singleton.2 rfl),rfl⟩ hv.eq
  ·rcases List.mem_append.1 hw' with z | z
   ·exact hmono _ (h.inr w' z)
   ·have:w' = w:=by simpa using z
    rw [this]
    exact G.inn.congr fun j hj=>(hv.eq j hj).symm
  ·rcases hz with hz | rfl
   ·exact (h.cov z hz).mono fun x hx=>List.mem_append_left _ hx
   ·exact Sp.mem ⟨z,List.mem_append_right _ (List.mem_singleton.2 rfl),le_refl _,rfl⟩ fun _ _=>rfl
theorem look_ws (s:RSt) (w:Wd) (v:List Nat):(look s w v).ws = s.ws ∨ (look s w v).ws = s.ws ++ [w]:=by
 unfold look
 cases growR s.l v with
 | none=>exact .inl rfl
 | some l'=>exact .inr rfl
theorem look_hs (s:RSt) (w:Wd) (v:List Nat):(look s w v).hs = s.hs ∨ (look s w v).hs = s.hs ++ [v]:=by
 unfold look
 cases growR s.l v with
 | none=>exact .inl rfl
 | some l'=>exact .inr rfl
theorem look_get {s:RSt} {w:Wd} {v:List Nat} {k:Nat} {x:Wd} (h:s.ws[k]? = some x):(look s w v).ws[k]? = some x:=by
 have hk:=(List.getElem?_eq_some_iff.mp h).1
 rcases look_ws s w v with e | e
 ·rw [e]; exact h
 ·rw [e,List.getElem?_append_left hk]; exact h
theorem look_getH {s:RSt} {w:Wd} {v:List Nat} {k:Nat} {x:List Nat} (h:s.hs[k]? = some x):(look s w v).hs[k]? = some x:=by
 have hk:=(List.getElem?_eq_some_iff.mp h).1
 rcases look_hs s w v with e | e
 ·rw [e]; exact h
 ·rw [e,List.getElem?_append_left hk]; exact h
theorem look_take {s:RSt} {w:Wd} {v:List Nat} {k:Nat} (h:k ≤ s.ws.length):(look s w v).ws.take k = s.ws.take k:=by
 rcases look_ws s w v with e | e
 ·rw [e]
 ·rw [e,List.take_append_of_le_length h]
noncomputable def Lk (K:Nat) (ws:List Wd) (k c:Nat) (z:Wd):Prop:=z = [] ∨ (∃ x,x ∈ ws.take k ∧ ∃ b,b < K ∧ z = x ++ [b]) ∨ ∃ x,ws[k]? = some x ∧ ∃ b,b < c ∧ z = x ++ [b]
noncomputable abbrev Inv (m:Machine) (k c:Nat) (s:RSt):Prop:=RI m (Lk m.k s.ws k c) s
noncomputable def start (m:Machine):RSt:=look ⟨[],[],[]⟩ [] m.first
theorem inv_start {m:Machine} (hm:Rt m):Inv m 0 0 (start m):=by
 refine ((RI.empty m).look (HoldsW.nil hm) fun x hx=>by cases hx).congr fun z=>⟨fun h=>?_,fun h=>?_⟩
 ·rcases h with h | h
  ·exact h.elim
  ·exact .inl h
 ·rcases h with h | ⟨x,hx,_⟩ | ⟨x,_,b,hb,_⟩
  ·exact .inr h
  ·simp at hx
  ·omega
theorem sorted_lt {ws:List Wd} (h:ws.Pairwise lt) {i k:Nat} {x y:Wd} (hi:ws[i]? = some x) (hk:ws[k]? = some y) (hik:i < k):lt x y:=by
 obtain ⟨h1,e1⟩:=List.getElem?_eq_some_iff.mp hi
 obtain ⟨h2,e2⟩:=List.getElem?_eq_some_iff.mp hk
 rw [← e1,← e2]
 exact List.pairwise_iff_getElem.1 h i k h1 h2 hik
theorem mem_take {ws:List Wd} {k:Nat} {x:Wd} (h:x ∈ ws.take k):∃ i,i < k ∧ ws[i]? = some x:=by
 obtain ⟨i,hi⟩:=List.mem_iff_getElem?.1 h
 rw [List.getElem?_take] at hi
 by_cases z:i < k
 ·rw [if_pos z] at hi; exact ⟨i,z,hi⟩
 ·rw [if_neg z] at hi; cases hi
theorem take_mem {ws:List Wd} {k i:Nat} {x:Wd} (hi:i < k) (h:ws[i]? = some x):x ∈ ws.take k :=
 List.mem_iff_getElem?.2 ⟨i,by rw [List.getElem?_take,if_pos hi]; exact h⟩
theorem inv_step {m:Machine} {k a:Nat} {s:RSt} (h:Inv m k a s) {x:Wd} {v:List Nat} (hw:s.ws[k]? = some x) (hh:s.hs[k]? = some v) (ha:a < m.k):Inv m k (a + 1) (look s (x ++ [a]) (Rc64.step m v a)):=by
 have hk:=(List.getElem?_eq_some_iff.mp hw).1
 have hv:=(h.hold k x v hw hh).step ha
 refine (h.look hv fun y hy=>?_).congr fun z=>?_
 ·rcases h.inL y hy with e | ⟨y',hy',b,_,e⟩ | ⟨x',hx',b,hb,e⟩
  ·rw [e,lt_iff]
   exact .inl (by simp)
  ·obtain ⟨i,hi,ei⟩:=mem_take hy'
   rw [e]
   exact lt_snoc (sorted_lt h.sorted ei hw hi) b a
  ·rw [hw] at hx'
   obtain rfl:=Option.some.inj hx'
   rw [e]
   exact lt_snoc_lt x hb
 ·unfold Lk
  rw [look_take (Nat.le_of_lt hk),look_get hw]
  constructor
  ·rintro ((e | e | ⟨y,hy,b,hb,e⟩) | e)
   ·exact .inl e
   ·exact .inr (.inl e)
   ·rw [hw] at hy
    exact .inr (.inr ⟨y,hy,b,by omega,e⟩)
   ·exact .inr (.inr ⟨x,rfl,a,by omega,e⟩)
  ·rintro (e | e | ⟨y,hy,b,hb,e⟩)
   ·exact .inl (.inl e)
   ·exact .inl (.inr (.inl e))
   ·obtain rfl:=Option.some.inj hy
    by_cases hba:b = a
    ·subst hba; exact .inr e
    ·exact .inl (.inr (.inr ⟨x,hw,b,by omega,e⟩))
theorem inv_next {m:Machine} {k:Nat} {s:RSt} (h:Inv m k m.k s) {x:Wd} (hw:s.ws[k]? = some x):Inv m (k + 1) 0 s:=by
 refine h.congr fun z=>?_
 unfold Lk
 constructor
 ·rintro (e | ⟨y,hy,b,hb,e⟩ | ⟨y,hy,b,hb,e⟩)
  ·exact .inl e
  ·obtain ⟨i,hi,ei⟩:=mem_take hy
   exact .inr (.inl ⟨y,take_mem (by omega) ei,b,hb,e⟩)
  ·exact .inr (.inl ⟨y,take_mem (by omega) hy,b,hb,e⟩)
 ·rintro (e | ⟨y,hy,b,hb,e⟩ | ⟨y,hy,b,hb,e⟩)
  ·exact .inl e
  ·obtain ⟨i,hi,ei⟩:=mem_take hy
   by_cases hik:i = k
   ·subst hik; exact .inr (.inr ⟨y,ei,b,hb,e⟩)
   ·exact .inr (.inl ⟨y,take_mem (by omega) ei,b,hb,e⟩)
  ·omega
theorem inv_len {m:Machine} {L:Wd → Prop} {s:RSt} (h:RI m L s):s.ws.length ≤ m.n:=by rw [h.lw]; exact h.re.ech.len
theorem inv_steps {m:Machine} {k c:Nat} {s:RSt} (h:Inv m k c s) {x:Wd} (hx:x ∈ s.ws.take k) {a:Nat} (ha:a < m.k):Cov (toLM m) (· ∈ s.ws) (x ++ [a]):=h.cov _ (.inr (.inl ⟨x,hx,a,ha,rfl⟩))
theorem cov_in {m:Machine} {L:Wd → Prop} {s:RSt} (h:RI m L s) {z:Wd} (c:Cov (toLM m) (· ∈ s.ws) z):InRows m.n s.l (fw (toLM m) z) :=
 Sp.mono (fun y ⟨x,hx,_,e⟩=>e ▸ h.inr x hx) c
theorem inv_lets {m:Machine} {L:Wd → Prop} {s:RSt} (h:RI m L s) {w:Wd} (hw:w ∈ s.ws):lets m.k w:=by
 obtain ⟨i,hi⟩:=List.mem_iff_getElem?.1 hw
 have hlt:=(List.getElem?_eq_some_iff.mp hi).1
 obtain ⟨v,hv⟩:∃ v,s.hs[i]? = some v:=⟨_,List.getElem?_eq_getElem (by rw [h.lh]; exact hlt)⟩
 exact (h.hold i w v hi hv).ls
theorem inv_basis {m:Machine} {k c:Nat} {s:RSt} (h:Inv m k c s) (hk:s.ws.length ≤ k):Basis m s.l where
 ech:=h.re.ech
 words:=fun r hr=>Sp.mono (fun y ⟨w,hw,e⟩=>Sp.mem ⟨w,inv_lets h hw,e⟩ fun _ _=>rfl) (h.rows r hr)
 first:=cov_in h (h.cov [] (.inl rfl))
 steps:=fun r hr a ha=>Sp.step (A:=toLM m) a (fun y ⟨w,hw,e⟩=>by
  rw [e,← fw_snoc]
  exact cov_in h (inv_steps h (by rw [List.take_of_length_le hk]; exact hw) ha)) (h.rows r hr)
theorem inv_found {m:Machine} {k c:Nat} {s:RSt} (h:Inv m k c s) {w:Wd} (hw:s.ws[k]? = some w) (hz:∀ x,x ∈ s.ws.take k → wt (toLM m) x = 0):∀ z,lets m.k z → lt z w → wt (toLM m) z = 0:=by
 intro z hl hlt
 have key:∀ z,lt z w → Cov (toLM m) (· ∈ s.ws) z → Cov (toLM m) (· ∈ s.ws.take k) z:=fun z hz c =>
  Sp.mono (fun y ⟨x,hx,hle,e⟩=>by
   refine Sp.mem ⟨x,?_,hle,e⟩ fun _ _=>rfl
   obtain ⟨i,hi⟩:=List.mem_iff_getElem?.1 hx
   have hxw:=lt_of_le_lt hle hz
   refine take_mem (i:=i) (Classical.byContradiction fun hik=>?_) hi
   by_cases e:i = k
   ·subst e
    rw [hw] at hi
    obtain rfl:=Option.some.inj hi
    exact lt_irrefl _ hxw
   ·exact lt_asymm hxw (sorted_lt h.sorted hw hi (by omega))) c
 have c:=cov_all (D:=toLM m) (k:=m.k) (acc:=(· ∈ s.ws.take k)) (bound:=fun z=>lt z w) (fun _ _ h g=>lt_of_le_lt h g) (fun hb=>key _ hb (h.cov [] (.inl rfl))) (fun x hx a ha hb=>key _ hb (inv_steps h hx ha)) z.reverse (by rw [List.reverse_reverse]; exact hl) (by rw [List.reverse_reverse]; exact hlt)
 rw [List.reverse_reverse] at c
 exact cov_wt hz c
theorem inv_none {m:Machine} {k c:Nat} {s:RSt} (h:Inv m k c s) (hk:s.ws.length ≤ k) (hz:∀ x,x ∈ s.ws.take k → wt (toLM m) x = 0):∀ z,lets m.k z → wt (toLM m) z = 0:=by
 intro z hl
 rw [List.take_of_length_le hk] at hz
 have c:=cov_all (D:=toLM m) (k:=m.k) (acc:=(· ∈ s.ws)) (bound:=fun _=>True) (fun _ _ _ _=>trivial) (fun _=>h.cov [] (.inl rfl)) (fun x hx a ha _=>inv_steps h (by rw [List.take_of_length_le hk]; exact hx) ha) z.reverse (by rw [List.reverse_reverse]; exact hl) trivial
 rw [List.reverse_reverse] at c
 exact cov_wt hz c
noncomputable def onlyP (m:PM) (l:List Row):PM:=⟨l.length,m.k,facR l m.f,(List.range l.length).map fun i=>dotR (rw' l i) m.l,(List.range m.k).map fun a=>(List.range l.length).map fun i=>facR l (Rc64.step m.mach (rw' l i) a)⟩
theorem below_dots (n:Nat) (g:Nat → List Nat) (l:List Nat):below ((List.range n).map fun i=>dotR (g i) l):=fun x hx=>by
 obtain ⟨i,_,e⟩:=List.mem_map.1 hx
 rw [← e]; exact dotR_lt ..
theorem only_ok {m:PM} (h:m.Ok) (l:List Row):(onlyP m l).Ok where
 fl:=facR_len ..
 ll:=by show ((List.range l.length).map _).length = l.length; simp
 hl:=by show ((List.range m.k).map _).length = m.k; simp
 ql:=fun q hq=>by
  obtain ⟨a,_,e⟩:=List.mem_map.1 hq
  rw [← e]; show ((List.range l.length).map _).length = l.length; simp
 rl:=fun q hq r hr=>by
  obtain ⟨a,_,e⟩:=List.mem_map.1 hq
  rw [← e] at hr
  obtain ⟨i,_,e⟩:=List.mem_map.1 hr
  rw [← e]; exact facR_len ..
 fb:=facR_below h.fb
 lb:=below_dots _ _ _
 hb:=fun q hq r hr=>by
  obtain ⟨a,_,e⟩:=List.mem_map.1 hq
  rw [← e] at hr
  obtain ⟨i,_,e⟩:=List.mem_map.1 hr
  rw [← e]; exact facR_below (step_below _ _ _)
theorem only_at {m:PM} (l:List Row) {a i j:Nat} (ha:a < m.k) (hi:i < l.length):(onlyP m l).at3 a i j = (facR l (Rc64.step m.mach (rw' l i) a)).getD j 0:=by
 show ((((List.range m.k).map _).getD a []).getD i []).getD j 0 = _
 rw [getD_map_range' _ _ _ _ ha,getD_map_range' _ _ _ _ hi]
theorem only_red {m:PM} (h:m.Ok) {l:List Row} (re:RE m.n l) (b:Basis m.mach l):Red m.k (toLM m.mach) (toLM (onlyP m l).mach) (rowK l):=by
 refine ⟨fun j hj=>?_,fun i hi=>?_,fun a ha i hi j hj=>?_⟩
 ·exact re.whole (v:=m.f) b.first hj
 ·have hi:i < l.length:=hi
  show vk ((List.range l.length).map fun i=>dotR (rw' l i) m.l) i = _
  rw [vk_range _ _ hi,toK_dotR,(re.mem i hi).1]
  rfl
 ·have hi:i < l.length:=hi
  have hin:InRows m.n l (vk (Rc64.step m.mach (rw' l i) a)):=by
   obtain ⟨r,hr,e,_⟩:=mem_rw hi
   rw [e]
   exact (b.steps r hr a ha).congr fun j hj=>vk_step m.mach _ a j hj
  have w:=re.whole hin hj
  rw [vk_step m.mach _ _ _ hj] at w
  refine Eq.trans ?_ w
  refine S_congr fun s hs=>?_
  have e:(onlyP m l).mach.on a i s = (onlyP m l).at3 a i s:=(only_ok h l).on ha hi hs
  show toK ((onlyP m l).mach.on a i s) * _ = _
  rw [e,only_at l ha hi]
  rfl
theorem only_seen {m:PM} (h:m.Ok) {l:List Row} (re:RE m.n l) (b:Basis m.mach l):SeenOk m.mach (onlyP m l).mach where
 rt:=(only_ok h l).rt
 k:=rfl
 n:=b.ech.len
 same:=fun w hw=>(only_red h re b).wt hw
 reach:=(only_red h re b).reach b.ech.indep fun i hi=>by
  have hi:i < l.length:=hi
  have:=(b.words _ (rowK_mem hi).1).words (A:=toLM m.mach)
  rw [(rowK_mem hi).2]
  exact this
 obs:=(only_red h re b).obs b.ech.indep
end Wm
namespace Wm
open Rc64 (Machine P made Row)
theorem mach_made' {q:PM} (hq:q.Ok) {n k:Nat} {f l:Nat → Nat} {h:Nat → Nat → Nat → Nat} (hn:q.n = n) (hk:q.k = k) (hf:∀ i,i < n → q.f.getD i 0 = f i % P) (hl:∀ i,i < n → q.l.getD i 0 = l i % P)
  (hh:∀ a,a < k → ∀ i,i < n → ∀ j,j < n → q.at3 a i j = h a i j % P):q.mach = made n k f l h:=by
 subst hn hk
 refine mach_ext hq.rt (rt_made ..) rfl rfl (fun i hi=>?_) (fun i hi=>?_) (fun a ha i hi j hj=>?_)
 ·exact (hf i hi).trans (made_f q.n q.k f l h i hi).symm
 ·exact (hl i hi).trans (made_l q.n q.k f l h i hi).symm
 ·rw [hq.on ha hi hj]
  exact (hh a ha i hi j hj).trans (made_on q.n q.k f l h a i j ha hi hj).symm
theorem PM.Ok.sq {m:PM} (h:m.Ok) {a:Nat} (ha:a < m.k):m.h.getD a [] ∈ m.h:=by
 have ha':a < m.h.length:=by rw [h.hl]; exact ha
 rw [getD_lt ha']; exact List.getElem_mem ha'
theorem PM.Ok.row {m:PM} (h:m.Ok) {a i:Nat} (ha:a < m.k) (hi:i < m.n):(m.h.getD a []).getD i [] ∈ m.h.getD a []:=by
 have hi':i < (m.h.getD a []).length:=by rw [h.ql _ (h.sq ha)]; exact hi
 rw [getD_lt hi']; exact List.getElem_mem hi'
theorem PM.Ok.sqlen {m:PM} (h:m.Ok) {a:Nat} (ha:a < m.k):(m.h.getD a []).length = m.n:=h.ql _ (h.sq ha)
theorem PM.Ok.rowlen {m:PM} (h:m.Ok) {a i:Nat} (ha:a < m.k) (hi:i < m.n):((m.h.getD a []).getD i []).length = m.n:=h.rl _ (h.sq ha) _ (h.row ha hi)
theorem PM.Ok.rowbelow {m:PM} (h:m.Ok) {a i:Nat} (ha:a < m.k) (hi:i < m.n):below ((m.h.getD a []).getD i []):=h.hb _ (h.sq ha) _ (h.row ha hi)
theorem PM.Ok.at_lt {m:PM} (h:m.Ok) {a i:Nat} (ha:a < m.k) (hi:i < m.n) (j:Nat):m.at3 a i j < P:=below_getD (h.rowbelow ha hi) j
theorem ok_of {n k:Nat} {f l:List Nat} {g:Nat → Nat → List Nat} (fl:f.length = n) (ll:l.length = n) (fb:below f) (lb:below l) (gl:∀ a i,a < k → i < n → (g a i).length = n) (gb:∀ a i,a < k → i < n → below (g a i)) {h:List (List (List Nat))} (hl:h.length = k)
  (hq:∀ a,a < k → (h.getD a []).length = n) (hg:∀ a i,a < k → i < n → (h.getD a []).getD i [] = g a i):PM.Ok ⟨n,k,f,l,h⟩:=by
 have key:∀ q,q ∈ h → ∃ a,a < k ∧ q = h.getD a []:=fun q hq=>by
  obtain ⟨a,ha,e⟩:=List.mem_iff_getElem.1 hq
  exact ⟨a,by rw [← hl]; exact ha,by rw [getD_lt ha,e]⟩
 have key2:∀ a,a < k → ∀ r,r ∈ h.getD a [] → ∃ i,i < n ∧ r = g a i:=fun a ha r hr=>by
  obtain ⟨i,hi,e⟩:=List.mem_iff_getElem.1 hr
  have hi':i < n:=by rw [← hq a ha]; exact hi
  exact ⟨i,hi',by rw [← hg a i ha hi',getD_lt hi,e]⟩
 refine ⟨fl,ll,hl,fun q hq'=>?_,fun q hq' r hr=>?_,fb,lb,fun q hq' r hr=>?_⟩
 ·obtain ⟨a,ha,rfl⟩:=key q hq'
  exact hq a ha
 ·obtain ⟨a,ha,rfl⟩:=key q hq'
  obtain ⟨i,hi,rfl⟩:=key2 a ha r hr
  exact gl a i ha hi
 ·obtain ⟨a,ha,rfl⟩:=key q hq'
  obtain ⟨i,hi,rfl⟩:=key2 a ha r hr
  exact gb a i ha hi
theorem getD_app_l {α:Type} {u v:List α} {i:Nat} {d:α} (h:i < u.length):(u ++ v).getD i d = u.getD i d:=by
 rw [List.getD_eq_getElem?_getD,List.getElem?_append_left h,← List.getD_eq_getElem?_getD]
theorem getD_app_r {α:Type} {u v:List α} {i:Nat} {d:α} (h:u.length ≤ i):(u ++ v).getD i d = v.getD (i - u.length) d:=by
 rw [List.getD_eq_getElem?_getD,List.getElem?_append_right h,← List.getD_eq_getElem?_getD]
theorem getD_rep {n i:Nat}:(List.replicate n 0).getD i 0 = 0:=by
 by_cases h:i < n
 ·rw [getD_lt (by simpa using h)]; simp
 ·rw [getD_ge (by simp; omega)]
noncomputable def sideR (sq br ot:List (List Nat)):List (List Nat):=((List.range sq.length).map fun i=>sq.getD i [] ++ br.getD i []) ++ (List.range ot.length).map fun i=>List.replicate sq.length 0 ++ ot.getD i []
theorem sideR_len (sq br ot:List (List Nat)):(sideR sq br ot).length = sq.length + ot.length:=by simp [sideR]
theorem sideR_up {sq br ot:List (List Nat)} {i:Nat} (h:i < sq.length):(sideR sq br ot).getD i [] = sq.getD i [] ++ br.getD i []:=by
 unfold sideR
 rw [getD_app_l (by simpa using h),getD_map_range' _ _ _ _ h]
theorem sideR_low {sq br ot:List (List Nat)} {i:Nat} (h:sq.length ≤ i) (h2:i - sq.length < ot.length):(sideR sq br ot).getD i [] = List.replicate sq.length 0 ++ ot.getD (i - sq.length) []:=by
 unfold sideR
 rw [getD_app_r (by simpa using h)]
 have:((List.range sq.length).map fun i=>sq.getD i [] ++ br.getD i []).length = sq.length:=by simp
 rw [this,getD_map_range' _ _ _ _ h2]
noncomputable def besideP (m o:PM) (f l:List Nat) (br:Nat → List (List Nat)):PM:=⟨m.n + o.n,m.k,f,l,(List.range m.k).map fun a=>sideR (m.h.getD a []) (br a) (o.h.getD a [])⟩
section
variable {m o:PM} (hm:m.Ok) (ho:o.Ok) (hk:m.k = o.k) {f l:List Nat} {br:Nat → List (List Nat)}
include hm ho hk
theorem beside_up {a i:Nat} (ha:a < m.k) (hi:i < m.n):(((besideP m o f l br).h.getD a []).getD i []) = (m.h.getD a []).getD i [] ++ (br a).getD i []:=by
 show (((List.range m.k).map _).getD a []).getD i [] = _
 rw [getD_map_range' _ _ _ _ ha,sideR_up (by rw [hm.sqlen ha]; exact hi)]
theorem beside_low {a i:Nat} (ha:a < m.k) (hi:m.n ≤ i) (hi2:i < m.n + o.n):(((besideP m o f l br).h.getD a []).getD i []) = List.replicate m.n 0 ++ (o.h.getD a []).getD (i - m.n) []:=by
 show (((List.range m.k).map _).getD a []).getD i [] = _
 rw [getD_map_range' _ _ _ _ ha,sideR_low (by rw [hm.sqlen ha]; exact hi) (by rw [hm.sqlen ha,ho.sqlen (hk ▸ ha)]; omega),hm.sqlen ha]
theorem beside_ok (hf:f.length = m.n + o.n) (hl:l.length = m.n + o.n) (fb:below f) (lb:below l) (hbr:∀ a,a < m.k → ∀ i,i < m.n → ((br a).getD i []).length = o.n ∧ below ((br a).getD i [])):(besideP m o f l br).Ok:=by
 refine ok_of (g:=fun a i=>((besideP m o f l br).h.getD a []).getD i []) hf hl fb lb (fun a i ha hi=>?_) (fun a i ha hi=>?_) (by show ((List.range m.k).map _).length = m.k; simp) (fun a ha=>?_) (fun a i ha hi=>rfl)
 ·show (((besideP m o f l br).h.getD a []).getD i []).length = _
  by_cases h:i < m.n
  ·rw [beside_up hm ho hk ha h,List.length_append,hm.rowlen ha h,(hbr a ha i h).1]
  ·rw [beside_low hm ho hk ha (by omega) hi,List.length_append,List.length_replicate,ho.rowlen (hk ▸ ha) (by omega)]
 ·show below (((besideP m o f l br).h.getD a []).getD i [])
  by_cases h:i < m.n
  ·rw [beside_up hm ho hk ha h]; exact below_append.2 ⟨hm.rowbelow ha h,(hbr a ha i h).2⟩
  ·rw [beside_low hm ho hk ha (by omega) hi]; exact below_append.2 ⟨below_replicate _,ho.rowbelow (hk ▸ ha) (by omega)⟩
 ·show (((List.range m.k).map _).getD a []).length = _
  rw [getD_map_range' _ _ _ _ ha,sideR_len,hm.sqlen ha,ho.sqlen (hk ▸ ha)]
theorem beside_at {a i j:Nat} (ha:a < m.k) (hi:i < m.n + o.n) (hbl:∀ i,i < m.n → ((br a).getD i []).length = o.n):(besideP m o f l br).at3 a i j = if i < m.n then (if j < m.n then m.at3 a i j else ((br a).getD i []).getD (j - m.n) 0) else (if j < m.n then 0 else o.at3 a (i - m.n) (j - m.n)):=by
 show (((besideP m o f l br).h.getD a []).getD i []).getD j 0 = _
 by_cases h:i < m.n
 ·rw [beside_up hm ho hk ha h,if_pos h]
  by_cases g:j < m.n
  ·rw [if_pos g,getD_app_l (by rw [hm.rowlen ha h]; exact g)]; rfl
  ·rw [if_neg g,getD_app_r (by rw [hm.rowlen ha h]; omega),hm.rowlen ha h]
 ·rw [beside_low hm ho hk ha (by omega) hi,if_neg h]
  by_cases g:j < m.n
  ·rw [if_pos g,getD_app_l (by simpa using g),getD_rep]
  ·rw [if_neg g,getD_app_r (by simp; omega),List.length_replicate]; rfl
end
noncomputable def zerosR (h w:Nat):List (List Nat):=(List.range h).map fun _=>List.replicate w 0
theorem zerosR_get {h w i:Nat} (hi:i < h):(zerosR h w).getD i [] = List.replicate w 0:=getD_map_range' _ _ _ _ hi
noncomputable def addedP (m o:PM):PM:=besideP m o (m.f ++ o.f) (m.l ++ o.l) fun _=>zerosR m.n o.n
theorem getD_app2 {u v:List Nat} {n i:Nat} (h:u.length = n):(u ++ v).getD i 0 = if i < n then u.getD i 0 else v.getD (i - n) 0:=by
 by_cases g:i < n
 ·rw [if_pos g,getD_app_l (by omega)]
 ·rw [if_neg g,getD_app_r (by omega),h]
theorem mod_lt_id {x:Nat} (h:x < P):x = x % P:=(Nat.mod_eq_of_lt h).symm
section
variable {m o:PM} (hm:m.Ok) (ho:o.Ok)
include hm ho
theorem added_ok (hk:m.k = o.k):(addedP m o).Ok:=beside_ok hm ho hk (by rw [List.length_append,hm.fl,ho.fl]) (by rw [List.length_append,hm.ll,ho.ll]) (below_append.2 ⟨hm.fb,ho.fb⟩) (below_append.2 ⟨hm.lb,ho.lb⟩) fun a ha i hi=>by
 rw [zerosR_get hi]; exact ⟨by simp,below_replicate _⟩
theorem added_mach (hk:m.k = o.k):(addedP m o).mach = Rc64.plus m.mach o.mach:=by
 refine mach_made' (added_ok hm ho hk) rfl rfl (fun i hi=>?_) (fun i hi=>?_) (fun a ha i hi j hj=>?_)
 ·refine (getD_app2 (hm.fl)).trans ((mod_lt_id ?_))
  by_cases g:i < m.n
  ·rw [if_pos g]; exact below_getD hm.fb _
  ·rw [if_neg g]; exact below_getD ho.fb _
 ·refine (getD_app2 (hm.ll)).trans ((mod_lt_id ?_))
  by_cases g:i < m.n
  ·rw [if_pos g]; exact below_getD hm.lb _
  ·rw [if_neg g]; exact below_getD ho.lb _
 ·have ha:a < m.k:=ha
  have hi:i < m.n + o.n:=hi
  have hj:j < m.n + o.n:=hj
  show (besideP m o _ _ _).at3 a i j = (if i < m.n ∧ j < m.n then m.mach.on a i j else if m.n ≤ i ∧ m.n ≤ j then o.mach.on a (i - m.n) (j - m.n) else 0) % P
  rw [beside_at hm ho hk ha hi fun i hi=>by rw [zerosR_get hi]; simp]
  by_cases h:i < m.n
  ·rw [if_pos h]
   by_cases g:j < m.n
   ·rw [if_pos g,if_pos ⟨h,g⟩,hm.on ha h g]; exact mod_lt_id (hm.at_lt ha h j)
   ·rw [if_neg g,if_neg (by omega),if_neg (by omega),zerosR_get h,getD_rep]; rfl
  ·rw [if_neg h]
   by_cases g:j < m.n
   ·rw [if_pos g,if_neg (by omega),if_neg (by omega)]; rfl
   ·rw [if_neg g,if_neg (by omega),if_pos (by omega),ho.on (hk ▸ ha) (by omega) (by omega)]; exact mod_lt_id (ho.at_lt (hk ▸ ha) (by omega) _)
end
noncomputable def bridgeR (m:PM) (sq:List (List Nat)) (o:PM):List (List Nat):=(List.range sq.length).map fun i=>mulR (dotR (sq.getD i []) m.l) o.f
noncomputable def behindP (m o:PM):PM:=besideP m o (m.f ++ mulR (dotR m.f m.l) o.f) (List.replicate m.n 0 ++ o.l) fun a=>bridgeR m (m.h.getD a []) o
section
variable {m o:PM} (hm:m.Ok) (ho:o.Ok)
include hm ho
theorem bridge_get {a i:Nat} (ha:a < m.k) (hi:i < m.n):(bridgeR m (m.h.getD a []) o).getD i [] = mulR (dotR ((m.h.getD a []).getD i []) m.l) o.f :=
 getD_map_range' _ _ _ _ (by rw [hm.sqlen ha]; exact hi)
theorem behind_ok (hk:m.k = o.k):(behindP m o).Ok:=beside_ok hm ho hk (by rw [List.length_append,hm.fl,mulR_len,ho.fl]) (by rw [List.length_append,List.length_replicate,ho.ll]) (below_append.2 ⟨hm.fb,mulR_below _ _⟩) (below_append.2 ⟨below_replicate _,ho.lb⟩) fun a ha i hi=>by
 rw [bridge_get hm ho ha hi]; exact ⟨by rw [mulR_len,ho.fl],mulR_below _ _⟩
theorem mulR_get {x:Nat} {v:List Nat} {j:Nat} (hj:j < v.length):(mulR x v).getD j 0 = x * v.getD j 0 % P:=getD_map_range _ _ _ hj
theorem behind_mach (hk:m.k = o.k):(behindP m o).mach = Rc64.behind m.mach o.mach:=by
 refine mach_made' (behind_ok hm ho hk) rfl rfl (fun i hi=>?_) (fun i hi=>?_) (fun a ha i hi j hj=>?_)
 ·have hi:i < m.n + o.n:=hi
  refine (getD_app2 (hm.fl)).trans ?_
  show _ = (if i < m.n then m.f.getD i 0 else Rc64.dot m.n _ _ * o.f.getD (i - m.n) 0) % P
  by_cases g:i < m.n
  ·rw [if_pos g,if_pos g]; exact mod_lt_id (below_getD hm.fb _)
  ·rw [if_neg g,if_neg g,mulR_get hm ho (by rw [ho.fl]; omega)]
   unfold dotR
   rw [hm.fl]; rfl
 ·refine (getD_app2 (n:=m.n) (by simp)).trans ((mod_lt_id ?_).trans ?_)
  ·by_cases g:i < m.n
   ·rw [if_pos g,getD_rep]; exact P_pos
   ·rw [if_neg g]; exact below_getD ho.lb _
  ·show _ = (if i < m.n then 0 else o.l.getD (i - m.n) 0) % P
   by_cases g:i < m.n
   ·rw [if_pos g,if_pos g,getD_rep]
   ·rw [if_neg g,if_neg g]
 ·have ha:a < m.k:=ha
  have hi:i < m.n + o.n:=hi
  have hj:j < m.n + o.n:=hj
  show (besideP m o _ _ _).at3 a i j = (if i < m.n ∧ j < m.n then m.mach.on a i j else if m.n ≤ i ∧ m.n ≤ j then o.mach.on a (i - m.n) (j - m.n) else if i < m.n then Rc64.dot m.n (fun r=>m.mach.on a i r) m.mach.l * o.mach.f (j - m.n) else 0) % P
  rw [beside_at hm ho hk ha hi fun i hi=>by rw [bridge_get hm ho ha hi,mulR_len,ho.fl]]
  by_cases h:i < m.n
  ·rw [if_pos h]
   by_cases g:j < m.n
   ·rw [if_pos g,if_pos ⟨h,g⟩,hm.on ha h g]; exact mod_lt_id (hm.at_lt ha h j)
   ·rw [if_neg g,if_neg (by omega),if_neg (by omega),if_pos h,bridge_get hm ho ha h,mulR_get hm ho (by rw [ho.fl]; omega)]
    have e:dotR ((m.h.getD a []).getD i []) m.l = Rc64.dot m.n (fun r=>m.mach.on a i r) m.mach.l:=by
     unfold dotR Rc64.dot
     rw [hm.rowlen ha h]
     congr 2
     refine List.map_congr_left fun r hr=>?_
     have hr:r < m.n:=List.mem_range.1 hr
     show _ = m.mach.on a i r * _
     rw [hm.on ha h hr]
     rfl
    rw [e]
    rfl
  ·rw [if_neg h]
   by_cases g:j < m.n
   ·rw [if_pos g,if_neg (by omega),if_neg (by omega),if_neg h]; rfl
   ·rw [if_neg g,if_neg (by omega),if_pos (by omega),ho.on (hk ▸ ha) (by omega) (by omega)]; exact mod_lt_id (ho.at_lt (hk ▸ ha) (by omega) _)
end
noncomputable def prodR (u v:List Nat):List Nat:=(List.range u.length).flatMap fun i=>mulR (u.getD i 0) v
noncomputable def prodRR (us vs:List (List Nat)):List (List Nat):=(List.range us.length).flatMap fun i=>(List.range vs.length).map fun j=>prodR (us.getD i []) (vs.getD j [])
noncomputable def multP (m o:PM):PM:=⟨m.n * o.n,m.k,prodR m.f o.f,prodR m.l o.l,(List.range m.k).map fun a=>prodRR (m.h.getD a []) (o.h.getD a [])⟩
theorem prodR_len (u v:List Nat):(prodR u v).length = u.length * v.length:=by
 unfold prodR
 rw [flat_len (c:=v.length) _ fun x _=>mulR_len ..,List.length_range]
theorem prodR_below (u v:List Nat):below (prodR u v):=fun x hx=>by
 obtain ⟨i,_,hx⟩:=List.mem_flatMap.1 hx
 exact mulR_below _ _ x hx
theorem prodR_get {u v:List Nat} {i j:Nat} (hi:i < u.length) (hj:j < v.length):(prodR u v).getD (i * v.length + j) 0 = u.getD i 0 * v.getD j 0 % P:=by
 unfold prodR
 rw [flat_get (c:=v.length) _ (fun x _=>mulR_len ..) i j hi hj]
 exact getD_map_range _ _ _ hj
theorem flat_lenG {α β:Type} {g:α → List β} {c:Nat}:∀ (l:List α),(∀ x,x ∈ l → (g x).length = c) → (l.flatMap g).length = l.length * c
 | [],_=>by simp
 | x :: l,h=>by
  rw [List.flatMap_cons,List.length_append,h x (List.mem_cons_self ..),flat_lenG l fun y hy=>h y (List.mem_cons_of_mem _ hy),List.length_cons,Nat.succ_mul]
  omega
theorem flat_getG {β:Type} {d:β} {g:Nat → List β} {c:Nat}:∀ (k:Nat),(∀ x,x < k → (g x).length = c) → ∀ a r,a < k → r < c → ((List.range k).flatMap g).getD (a * c + r) d = (g a).getD r d
 | 0,_,_,_,h,_=>absurd h (by omega)
 | k + 1,hg,a,r,ha,hr=>by
  rw [List.range_succ,List.flatMap_append]
  have hlen:((List.range k).flatMap g).length = k * c:=by
   rw [flat_lenG (c:=c) _ fun x hx=>hg x (by have:=List.mem_range.1 hx; omega),List.length_range]
  by_cases h:a < k
  ·rw [getD_app_l]
   ·exact flat_getG k (fun x hx=>hg x (by omega)) a r h hr
   ·rw [hlen]; exact idx_lt h hr
  ·have:a = k:=by omega
   subst this
   rw [getD_app_r (by rw [hlen]; omega),hlen]
   have:a * c + r - a * c = r:=by omega
   rw [this]
   simp
theorem prodRR_len (us vs:List (List Nat)):(prodRR us vs).length = us.length * vs.length:=by
 unfold prodRR
 rw [flat_lenG (c:=vs.length) _ fun x _=>by simp,List.length_range]
theorem prodRR_get {us vs:List (List Nat)} {i j:Nat} (hi:i < us.length) (hj:j < vs.length):(prodRR us vs).getD (i * vs.length + j) [] = prodR (us.getD i []) (vs.getD j []):=by
 unfold prodRR
 rw [flat_getG (c:=vs.length) _ (fun x _=>by simp) i j hi hj,getD_map_range' _ _ _ _ hj]
theorem split2 {m n x:Nat} (h:x < m * n):x / n < m ∧ x % n < n ∧ x = x / n * n + x % n:=by
 have hn:0 < n:=Nat.pos_of_ne_zero fun e=>by subst e; simp at h
 refine ⟨Nat.div_lt_of_lt_mul (by rw [Nat.mul_comm]; exact h),Nat.mod_lt _ hn,?_⟩
 have:=Nat.div_add_mod x n
 rw [Nat.mul_comm] at this
 exact this.symm
section
variable {m o:PM} (hm:m.Ok) (ho:o.Ok)
include hm ho
theorem mult_row (hk:m.k = o.k) {a i:Nat} (ha:a < m.k) (hi:i < m.n * o.n):((multP m o).h.getD a []).getD i [] = prodR ((m.h.getD a []).getD (i / o.n) []) ((o.h.getD a []).getD (i % o.n) []):=by
 show (((List.range m.k).map _).getD a []).getD i [] = _
 rw [getD_map_range' _ _ _ _ ha]
 obtain ⟨h1,h2,h3⟩:=split2 hi
 have hl:=ho.sqlen (hk ▸ ha:a < o.k)
 conv=>lhs; rw [h3]
 have:=prodRR_get (us:=m.h.getD a []) (vs:=o.h.getD a []) (i:=i / o.n) (j:=i % o.n) (by rw [hm.sqlen ha]; exact h1) (by rw [hl]; exact h2)
 rw [hl] at this
 exact this
theorem mult_ok (hk:m.k = o.k):(multP m o).Ok:=by
 refine ok_of (g:=fun a i=>((multP m o).h.getD a []).getD i []) (by rw [prodR_len,hm.fl,ho.fl]) (by rw [prodR_len,hm.ll,ho.ll]) (prodR_below _ _) (prodR_below _ _) (fun a i ha hi=>?_) (fun a i ha hi=>?_) (by simp) (fun a ha=>?_) (fun a i ha hi=>rfl)
 ·obtain ⟨h1,h2,h3⟩:=split2 hi
  show (((multP m o).h.getD a []).getD i []).length = _
  rw [mult_row hm ho hk ha hi,prodR_len,hm.rowlen ha h1,ho.rowlen (hk ▸ ha) h2]
 ·show below (((multP m o).h.getD a []).getD i [])
  rw [mult_row hm ho hk ha hi]; exact prodR_below _ _
 ·rw [getD_map_range' _ _ _ _ ha,prodRR_len,hm.sqlen ha,ho.sqlen (hk ▸ ha)]
theorem prodR_at {u v:List Nat} {n1 n2 i:Nat} (h1:u.length = n1) (h2:v.length = n2) (hi:i < n1 * n2):(prodR u v).getD i 0 = u.getD (i / n2) 0 * v.getD (i % n2) 0 % P:=by
 obtain ⟨g1,g2,g3⟩:=split2 hi
 subst h1 h2
 conv=>lhs; rw [g3]
 exact prodR_get g1 g2
theorem mult_mach (hk:m.k = o.k):(multP m o).mach = Rc64.times m.mach o.mach:=by
 refine mach_made' (mult_ok hm ho hk) rfl rfl (fun i hi=>?_) (fun i hi=>?_) (fun a ha i hi j hj=>?_)
 ·exact prodR_at hm ho hm.fl ho.fl hi
 ·exact prodR_at hm ho hm.ll ho.ll hi
 ·have ha:a < m.k:=ha
  have hi:i < m.n * o.n:=hi
  have hj:j < m.n * o.n:=hj
  obtain ⟨h1,h2,h3⟩:=split2 hi
  obtain ⟨g1,g2,g3⟩:=split2 hj
  show (((multP m o).h.getD a []).getD i []).getD j 0 = m.mach.on a (i / o.n) (j / o.n) * o.mach.on a (i % o.n) (j % o.n) % P
  rw [mult_row hm ho hk ha hi,prodR_at hm ho (hm.rowlen ha h1) (ho.rowlen (hk ▸ ha) h2) hj,hm.on ha h1 g1,ho.on (hk ▸ ha) h2 g2]
  rfl
end
noncomputable def turnedP (m:PM):PM:=⟨m.n,m.k,m.l,m.f,(List.range m.k).map fun a=>(List.range (m.h.getD a []).length).map fun j=>(List.range (m.h.getD a []).length).map fun i=>((m.h.getD a []).getD i []).getD j 0⟩
section
variable {m:PM} (hm:m.Ok)
include hm
theorem turned_row {a i:Nat} (ha:a < m.k) (hi:i < m.n):((turnedP m).h.getD a []).getD i [] = (List.range m.n).map fun j=>((m.h.getD a []).getD j []).getD i 0:=by
 show (((List.range m.k).map _).getD a []).getD i [] = _
 rw [getD_map_range' _ _ _ _ ha,hm.sqlen ha,getD_map_range' _ _ _ _ hi]
theorem turned_ok:(turnedP m).Ok:=by
 refine ok_of (g:=fun a i=>((turnedP m).h.getD a []).getD i []) hm.ll hm.fl hm.lb hm.fb (fun a i ha hi=>?_) (fun a i ha hi=>?_) (by simp) (fun a ha=>?_) (fun a i ha hi=>rfl)
 ·show (((turnedP m).h.getD a []).getD i []).length = _
  rw [turned_row hm ha hi]; simp
 ·show below (((turnedP m).h.getD a []).getD i [])
  rw [turned_row hm ha hi]
  intro x hx
  obtain ⟨j,hj,e⟩:=List.mem_map.1 hx
  rw [← e]
  exact hm.at_lt ha (List.mem_range.1 hj) i
 ·rw [getD_map_range' _ _ _ _ ha,hm.sqlen ha]; simp
theorem turned_mach:(turnedP m).mach = Rc64.turned m.mach:=by
 refine mach_made' (turned_ok hm) rfl rfl (fun i hi=>?_) (fun i hi=>?_) (fun a ha i hi j hj=>?_)
 ·exact mod_lt_id (below_getD hm.lb i)
 ·exact mod_lt_id (below_getD hm.fb i)
 ·have ha:a < m.k:=ha
  show (((turnedP m).h.getD a []).getD i []).getD j 0 = m.mach.on a j i % P
  have hj:j < m.n:=hj
  have hi:i < m.n:=hi
  rw [turned_row hm ha hi,getD_map_range _ _ _ hj,hm.on ha hj hi]
  exact mod_lt_id (hm.at_lt ha hj i)
end
theorem fewest_ok {m:PM} (hm:m.Ok) {l l2:List Row} (re:RE m.n l) (b:Basis m.mach l) (re2:RE l.length l2) (b2:Basis (turnedP (onlyP m l)).mach l2):LeastOk m.mach (turnedP (onlyP (turnedP (onlyP m l)) l2)).mach:=by
 have ho:=only_ok hm l
 have h1:=only_seen hm re b
 have h2:=only_seen (turned_ok ho) (l:=l2) re2 b2
 rw [turned_mach ho] at h2
 rw [turned_mach (only_ok (turned_ok ho) l2)]
 exact two_sides h1 h2
noncomputable def negP (m:PM):PM:=⟨m.n,m.k,m.f,(List.range m.l.length).map fun i=>(P - m.l.getD i 0) % P,m.h⟩
theorem neg_ok {m:PM} (hm:m.Ok):(negP m).Ok:=⟨hm.fl,by show ((List.range m.l.length).map _).length = m.n; simp [hm.ll],hm.hl,hm.ql,hm.rl,hm.fb,below_rangemod _ _,hm.hb⟩
theorem neg_bw {m:PM} (hm:m.Ok):∀ (w:Wd) (i:Nat),i < m.n → bw (toLM (negP m).mach) w i = - bw (toLM m.mach) w i
 | [],i,hi=>by
  show vk ((List.range m.l.length).map fun i=>(P - m.l.getD i 0) % P) i = - vk m.l i
  rw [vk_range _ _ (by rw [hm.ll]; exact hi),toK_mod,toK_neg (Nat.le_of_lt (below_getD hm.lb i))]
  rfl
 | a :: w,i,hi=>by
  show (S m.n fun j=>(toLM m.mach).h a i j * bw (toLM (negP m).mach) w j) = - S m.n fun j=>(toLM m.mach).h a i j * bw (toLM m.mach) w j
  have:(S m.n fun j=>(toLM m.mach).h a i j * bw (toLM (negP m).mach) w j) = S m.n fun j=>(-1) * ((toLM m.mach).h a i j * bw (toLM m.mach) w j):=S_congr fun j hj=>by rw [neg_bw hm w j hj]; grind
  rw [this,S_mul]; grind
theorem neg_wt {m:PM} (hm:m.Ok) (w:Wd):wt (toLM (negP m).mach) w = - wt (toLM m.mach) w:=by
 show (S m.n fun i=>(toLM m.mach).f i * bw (toLM (negP m).mach) w i) = - S m.n fun i=>(toLM m.mach).f i * bw (toLM m.mach) w i
 have:(S m.n fun i=>(toLM m.mach).f i * bw (toLM (negP m).mach) w i) = S m.n fun i=>(-1) * ((toLM m.mach).f i * bw (toLM m.mach) w i):=S_congr fun j hj=>by rw [neg_bw hm w j hj]; grind
 rw [this,S_mul]; grind
noncomputable def difP (m o:PM):PM:=addedP m (negP o)
theorem dif_wtP {m o:PM} (hm:m.Ok) (ho:o.Ok) (hk:m.k = o.k) {w:Wd} (hw:lets m.k w):wt (toLM (difP m o).mach) w = wt (toLM m.mach) w - wt (toLM o.mach) w:=by
 unfold difP
 rw [added_mach hm (neg_ok ho) hk,wt_plus _ _ hw,neg_wt ho]; grind
theorem apart_some {m o:PM} (hm:m.Ok) (ho:o.Ok) (hk:m.k = o.k) {k:Nat} {s:RSt} (h:Inv (difP m o).mach k 0 s) {w:Wd} (hw:s.ws[k]? = some w) (hz:∀ x,x ∈ s.ws.take k → wt (toLM (difP m o).mach) x = 0) (hne:wt (toLM (difP m o).mach) w ≠ 0) :
  IsApart m.k (toLM m.mach) (toLM o.mach) (some w):=by
 have hl:lets m.k w:=inv_lets h (List.mem_of_getElem? hw)
 refine ⟨hl,fun e=>hne ?_,fun z hz' hlt=>?_⟩
 ·rw [dif_wtP hm ho hk hl,e]; grind
 ·have:=inv_found h hw hz z hz' hlt
  rw [dif_wtP hm ho hk hz'] at this
  grind
theorem apart_none {m o:PM} (hm:m.Ok) (ho:o.Ok) (hk:m.k = o.k) {k:Nat} {s:RSt} (h:Inv (difP m o).mach k 0 s) (hl:s.ws.length ≤ k) (hz:∀ x,x ∈ s.ws.take k → wt (toLM (difP m o).mach) x = 0) :
  IsApart m.k (toLM m.mach) (toLM o.mach) none:=by
 intro z hz'
 have:=inv_none h hl hz z hz'
 rw [dif_wtP hm ho hk hz'] at this
 grind
theorem dotR_wt {m:PM} (hm:m.Ok) {w:Wd} {v:List Nat} (h:HoldsW m.mach w v):toK (dotR v m.l) = wt (toLM m.mach) w:=by
 rw [toK_dotR,wt_fw,h.len]
 exact S_congr fun i hi=>by rw [h.eq i hi]; rfl
theorem dotR_zero {m:PM} (hm:m.Ok) {w:Wd} {v:List Nat} (h:HoldsW m.mach w v):dotR v m.l = 0 ↔ wt (toLM m.mach) w = 0:=by
 rw [← dotR_wt hm h]
 exact ⟨fun e=>by rw [e,toK_zero],fun e=>toK_inj (dotR_lt ..) P_pos (by rw [e,toK_zero])⟩
theorem handed_eq {m:PM} (hm:m.Ok) {v:List Nat} (hv:v.length = m.n) {a:Nat} (ha:a < m.k):somR v (m.h.getD a []) m.n = Rc64.step m.mach v a:=by
 unfold somR Rc64.step
 refine List.map_congr_left fun j hj=>?_
 have hj:j < m.n:=List.mem_range.1 hj
 unfold Rc64.dot
 rw [hv]
 congr 2
 refine List.map_congr_left fun i hi=>?_
 have hi:i < m.n:=List.mem_range.1 hi
 show _ = _ * m.mach.on a i j
 rw [hm.on ha hi hj]
 rfl
theorem worth_eq {m:PM} (w:Wd) (h:(w.foldl (Rc64.step m.mach) m.f).length = m.n):dotR (w.foldl (Rc64.step m.mach) m.f) m.l = Rc64.worth m.mach w:=by
 unfold dotR Rc64.worth
 rw [h]
 rfl
end Wm
namespace Wm
open Rc64 (Machine P made Row)
theorem pow_sq (s e:Nat):(s * s % P) ^ (e / 2) % P = s ^ (2 * (e / 2)) % P:=by
 rw [← Nat.pow_mod,Nat.pow_mul]
 have:s ^ 2 = s * s:=by rw [Nat.pow_succ,Nat.pow_one]
 rw [this]
theorem pow_even {p s e x:Nat} (h:p * s ^ e % P = x) (he:e % 2 = 0):p * (s * s % P) ^ (e / 2) % P = x:=by
 rw [Nat.mul_mod,pow_sq,← Nat.mul_mod]
 have:2 * (e / 2) = e:=by omega
 rw [this]; exact h
theorem pow_odd {p s e x:Nat} (h:p * s ^ e % P = x) (he:e % 2 = 1):p * s % P * (s * s % P) ^ (e / 2) % P = x:=by
 rw [Nat.mul_mod,Nat.mod_mod,pow_sq,← Nat.mul_mod,Nat.mul_assoc]
 have:s * s ^ (2 * (e / 2)) = s ^ e:=by
  rw [← Nat.pow_succ']
  have:(2 * (e / 2)).succ = e:=by omega
  rw [this]
 rw [this]; exact h
theorem pow_start {x e:Nat} (hx:x < P) (he:e = P - 2):1 * x ^ e % P = Rc64.inverse x:=by
 rw [Nat.one_mul]
 unfold Rc64.inverse
 rw [power_eq _ _ _ (by rw [P_eq]; decide),Nat.mod_eq_of_lt hx,he]
theorem int_mod (a:Nat):((a:Int) % 2147483647) = ((a % P:Nat):Int):=by
 rw [Int.natCast_emod]; rfl
theorem int_mul_mod (x y:Nat):((x:Int) * (y:Int) % 2147483647) = ((x * y % P:Nat):Int):=by
 rw [← int_mod,Int.natCast_mul]
theorem int_sub_mod {x y:Nat} (hy:y < P):(((x:Int) - (y:Int)) % 2147483647) = (((x + (P - y)) % P:Nat):Int):=by
 rw [← int_mod]
 have e:((x + (P - y):Nat):Int) = ((x:Int) - (y:Int)) + 2147483647:=by
  rw [P_eq] at hy ⊢
  omega
 rw [e,Int.add_emod_right]
theorem int_neg_mod {y:Nat} (hy:y < P):((-1:Int) * (y:Int) % 2147483647) = (((P - y) % P:Nat):Int):=by
 have:=int_sub_mod (x:=0) hy
 rw [Nat.zero_add] at this
 rw [← this]
 congr 1
 omega
noncomputable def accS (fs:List Nat) (rows:List (List Nat)) (w i:Nat):List Nat:=(List.range w).map fun j=>((List.range i).map fun t=>fs.getD t 0 * (rows.getD t []).getD j 0).sum
theorem accS_zero (fs:List Nat) (rows:List (List Nat)) (w:Nat):accS fs rows w 0 = List.replicate w 0:=by
 unfold accS
 simp only [List.range_zero,List.map_nil,List.sum_nil]
 refine List.ext_getElem (by simp) fun i h1 h2=>by simp
theorem accS_len (fs:List Nat) (rows:List (List Nat)) (w i:Nat):(accS fs rows w i).length = w:=by simp [accS]
theorem accS_get (fs:List Nat) (rows:List (List Nat)) {w i j:Nat} (hj:j < w):(accS fs rows w i).getD j 0 = ((List.range i).map fun t=>fs.getD t 0 * (rows.getD t []).getD j 0).sum:=getD_map_range _ _ _ hj
theorem accS_succ (fs:List Nat) (rows:List (List Nat)) (w i:Nat):accS fs rows w (i + 1) = (List.range w).map fun j=>(accS fs rows w i).getD j 0 + fs.getD i 0 * (rows.getD i []).getD j 0:=by
 unfold accS
 refine List.map_congr_left fun j hj=>?_
 have hj:j < w:=List.mem_range.1 hj
 rw [getD_map_range _ _ _ hj,List.range_succ,List.map_append,List.sum_append]
 simp
theorem accS_skip {fs:List Nat} (rows:List (List Nat)) (w:Nat) {i:Nat} (h:fs.getD i 0 = 0):accS fs rows w (i + 1) = accS fs rows w i:=by
 rw [accS_succ]
 refine list_ext_getD (by simp [accS]) fun j hj=>?_
 have hj:j < w:=by simpa using hj
 rw [getD_map_range _ _ _ hj,h]
 simp
theorem accS_end (fs:List Nat) (rows:List (List Nat)) (w:Nat):(List.range w).map (fun j=>(accS fs rows w fs.length).getD j 0 % P) = somR fs rows w:=by
 unfold somR
 refine List.map_congr_left fun j hj=>?_
 rw [accS_get _ _ (List.mem_range.1 hj)]
 rfl
theorem find_none {v:List Nat} (h:∀ j,j < v.length → v.getD j 0 = 0):(v.findIdx? fun a=>a != 0) = none:=by
 rw [List.findIdx?_eq_none_iff]
 intro x hx
 obtain ⟨j,hj,e⟩:=List.mem_iff_getElem.1 hx
 have:=h j hj
 rw [getD_lt hj,e] at this
 simp [this]
theorem find_some {v:List Nat} {i:Nat} (hi:i < v.length) (h:∀ j,j < i → v.getD j 0 = 0) (hne:v.getD i 0 ≠ 0):(v.findIdx? fun a=>a != 0) = some i:=by
 rw [List.findIdx?_eq_some_iff_getElem]
 refine ⟨hi,?_,fun j hj=>?_⟩
 ·rw [getD_lt hi] at hne; simpa using hne
 ·have:=h j hj
  rw [getD_lt (by omega)] at this
  simp [this]
theorem below_lt64 {v:List Nat} (h:below v) (i:Nat):v.getD i 0 < 2 ^ 64:=Nat.lt_trans (below_getD h i) (by rw [P_eq]; decide)
end Wm
namespace Wm
theorem word_short {m:Rc64.Machine} {k c:Nat} {s:RSt} (h:Inv m k c s):∀ {i:Nat} {x:Wd},s.ws[i]? = some x → x.length ≤ i:=by
 intro i
 induction i using Nat.strongRecOn with
 | _ i ih =>
  intro x hx
  have key:∀ (y:Wd) (b j:Nat),s.ws[j]? = some y → x = y ++ [b] → x.length ≤ i:=fun y b j hj e=>by
   have hlt:lt y x:=by rw [e]; exact lt_snoc_self y b
   have hji:j < i:=Classical.byContradiction fun hn=>by
    by_cases e:i = j
    ·subst e
     rw [hx] at hj
     obtain rfl:=Option.some.inj hj
     exact lt_irrefl _ hlt
    ·exact lt_asymm hlt (sorted_lt h.sorted hx hj (by omega))
   have:=ih j hji hj
   rw [e,List.length_append]
   show y.length + 1 ≤ i
   omega
  rcases h.inL x (List.mem_of_getElem? hx) with e | ⟨y,hy,b,_,e⟩ | ⟨y,hy,b,_,e⟩
  ·rw [e]; exact Nat.zero_le _
  ·obtain ⟨j,_,hj⟩:=mem_take hy
   exact key y b j hj e
  ·exact key y b k hy e
end Wm
namespace Wp
open PySem PySem.Spec PyProof.Rows L2
theorem putF_putF (f:Str) (x y:V):∀ fs:List (Str × V),putF f y (putF f x fs) = putF f y fs
 | []=>by
  show putF f y [(f,x)] = [(f,y)]
  show (if f = f then (f,y) :: [] else _) = _
  rw [if_pos rfl]
 | (g,z) :: r=>by
  by_cases h:g = f
  ·have e1:putF f x ((g,z) :: r) = (g,x) :: r:=by show (if g = f then _ else _) = _; rw [if_pos h]
   have e2:putF f y ((g,z) :: r) = (g,y) :: r:=by show (if g = f then _ else _) = _; rw [if_pos h]
   rw [e1,e2]
   show (if g = f then _ else _) = _
   rw [if_pos h]
  ·have e1:putF f x ((g,z) :: r) = (g,z) :: putF f x r:=by show (if g = f then _ else _) = _; rw [if_neg h]
   have e2:putF f y ((g,z) :: r) = (g,z) :: putF f y r:=by show (if g = f then _ else _) = _; rw [if_neg h]
   rw [e1,e2,← putF_putF f x y r]
   show (if g = f then _ else _) = _
   rw [if_neg h]
theorem look_same (f:Str) (v:V) (fs:List (Str × V)):(putF f v fs).lookup f = some v:=by rw [lookup_putF,if_pos rfl]
theorem look_ne {f g:Str} (v:V) (fs:List (Str × V)) (h:¬ g = f):(putF f v fs).lookup g = fs.lookup g:=by rw [lookup_putF,if_neg h]
noncomputable abbrev nums (l:List Nat):List V:=l.map fun (x:Nat)=>V.int (x:Int)
theorem nums_set (l:List Nat) (i x:Nat):(nums l).set i (V.int (x:Int)) = nums (l.set i x):=by
 unfold nums
 rw [List.map_set]
noncomputable def Rows (H:Hp):List Addr → List (List Nat) → Prop
 | [],[]=>True
 | a :: as,r :: rs=>H a = some (.lst (nums r)) ∧ Rows H as rs
 | _,_=>False
noncomputable def Sqs (H:Hp):List (Addr × List Addr) → List (List (List Nat)) → Prop
 | [],[]=>True
 | p :: ps,q :: qs=>H p.1 = some (.lst (p.2.map V.ref)) ∧ Rows H p.2 q ∧ Sqs H ps qs
 | _,_=>False
noncomputable def sqF (ps:List (Addr × List Addr)):List Addr:=ps.flatMap fun p=>p.1 :: p.2
theorem Rows.frame {H H':Hp}:∀ {as:List Addr} {rs:List (List Nat)},Rows H as rs → (∀ b,b ∈ as → H' b = H b) → Rows H' as rs
 | [],[],_,_=>trivial
 | [],_ :: _,h,_=>h.elim
 | _ :: _,[],h,_=>h.elim
 | a :: as,r :: rs,h,k=>⟨(k a (List.mem_cons_self ..)).trans h.1,Rows.frame h.2 fun b hb=>k b (List.mem_cons_of_mem _ hb)⟩
theorem Rows.len {H:Hp}:∀ {as:List Addr} {rs:List (List Nat)},Rows H as rs → as.length = rs.length
 | [],[],_=>rfl
 | [],_ :: _,h=>h.elim
 | _ :: _,[],h=>h.elim
 | _ :: as,_ :: rs,h=>congrArg (· + 1) (Rows.len h.2)
theorem Rows.get {H:Hp}:∀ {as:List Addr} {rs:List (List Nat)},Rows H as rs → ∀ {i:Nat} {r:List Nat},rs[i]? = some r → ∃ a,as[i]? = some a ∧ H a = some (.lst (nums r))
 | [],[],_,_,_,e=>by simp at e
 | [],_ :: _,h,_,_,_=>h.elim
 | _ :: _,[],h,_,_,_=>h.elim
 | a :: as,r :: rs,h,0,x,e=>by
  have:r = x:=Option.some.inj e
  subst this
  exact ⟨a,rfl,h.1⟩
 | a :: as,r :: rs,h,i + 1,x,e=>Rows.get h.2 (i:=i) (r:=x) e
theorem Rows.set {H:Hp}:∀ {as:List Addr} {rs:List (List Nat)},Rows H as rs → as.Nodup → ∀ {i:Nat} {a:Addr} (r:List Nat),as[i]? = some a → Rows (upd H a (.lst (nums r))) as (rs.set i r)
 | [],[],_,_,_,_,_,e=>by simp at e
 | [],_ :: _,h,_,_,_,_,_=>h.elim
 | _ :: _,[],h,_,_,_,_,_=>h.elim
 | a :: as,x :: rs,h,nd,0,b,r,e=>by
  have:a = b:=Option.some.inj e
  subst this
  refine ⟨upd_same,h.2.frame fun c hc=>upd_ne fun z=>?_⟩
  subst z
  exact (List.nodup_cons.1 nd).1 hc
 | a :: as,x :: rs,h,nd,i + 1,b,r,e=>by
  have hb:b ∈ as:=List.mem_of_getElem? (show as[i]? = some b from e)
  refine ⟨(upd_ne fun z=>?_).trans h.1,Rows.set h.2 (List.nodup_cons.1 nd).2 r e⟩
  subst z
  exact (List.nodup_cons.1 nd).1 hb
theorem Sqs.frame {H H':Hp}:∀ {ps:List (Addr × List Addr)} {qs:List (List (List Nat))},Sqs H ps qs → (∀ b,b ∈ sqF ps → H' b = H b) → Sqs H' ps qs
 | [],[],_,_=>trivial
 | [],_ :: _,h,_=>h.elim
 | _ :: _,[],h,_=>h.elim
 | p :: ps,q :: qs,h,k=>by
  have k1:∀ b,b ∈ p.1 :: p.2 → H' b = H b:=fun b hb=>k b (List.mem_append_left _ hb)
  have k2:∀ b,b ∈ sqF ps → H' b = H b:=fun b hb=>k b (List.mem_append_right _ hb)
  exact ⟨(k1 _ (List.mem_cons_self ..)).trans h.1,h.2.1.frame fun b hb=>k1 b (List.mem_cons_of_mem _ hb),Sqs.frame h.2.2 k2⟩
theorem Sqs.len {H:Hp}:∀ {ps:List (Addr × List Addr)} {qs:List (List (List Nat))},Sqs H ps qs → ps.length = qs.length
 | [],[],_=>rfl
 | [],_ :: _,h=>h.elim
 | _ :: _,[],h=>h.elim
 | _ :: as,_ :: rs,h=>congrArg (· + 1) (Sqs.len h.2.2)
theorem Sqs.get {H:Hp}:∀ {ps:List (Addr × List Addr)} {qs:List (List (List Nat))},Sqs H ps qs → ∀ {i:Nat} {q:List (List Nat)},qs[i]? = some q → ∃ p,ps[i]? = some p ∧ H p.1 = some (.lst (p.2.map V.ref)) ∧ Rows H p.2 q
 | [],[],_,_,_,e=>by simp at e
 | [],_ :: _,h,_,_,_=>h.elim
 | _ :: _,[],h,_,_,_=>h.elim
 | p :: ps,q :: qs,h,0,x,e=>by
  have:q = x:=Option.some.inj e
  subst this
  exact ⟨p,rfl,h.1,h.2.1⟩
 | p :: ps,q :: qs,h,i + 1,x,e=>Sqs.get h.2.2 (i:=i) (q:=x) e
theorem mem_sqF {ps:List (Addr × List Addr)} {p:Addr × List Addr} {i:Nat} (h:ps[i]? = some p) {b:Addr} (hb:b ∈ p.1 :: p.2):b ∈ sqF ps :=
 List.mem_flatMap.2 ⟨p,List.mem_of_getElem? h,hb⟩
theorem Sqs.set {H:Hp}:∀ {ps:List (Addr × List Addr)} {qs:List (List (List Nat))},Sqs H ps qs → (sqF ps).Nodup → ∀ {a i:Nat} {p:Addr × List Addr} {q:List (List Nat)} {c:Addr} (r:List Nat),ps[a]? = some p → qs[a]? = some q → p.2[i]? = some c →
  Sqs (upd H c (.lst (nums r))) ps (qs.set a (q.set i r))
 | [],[],_,_,_,_,_,_,_,_,e,_,_=>by simp at e
 | [],_ :: _,h,_,_,_,_,_,_,_,_,_,_=>h.elim
 | _ :: _,[],h,_,_,_,_,_,_,_,_,_,_=>h.elim
 | p :: ps,q :: qs,h,nd,0,i,p',q',c,r,e,e',ec=>by
  have:p = p':=Option.some.inj e
  subst this
  have:q = q':=Option.some.inj e'
  subst this
  have nd:((p.1 :: p.2) ++ sqF ps).Nodup:=nd
  obtain ⟨n1,n2,n3⟩:=List.nodup_append.1 nd
  have hc:c ∈ p.2:=List.mem_of_getElem? ec
  refine ⟨(upd_ne fun z=>?_).trans h.1,h.2.1.set (List.nodup_cons.1 n1).2 r ec,h.2.2.frame fun b hb=>upd_ne fun z=>?_⟩
  ·exact (List.nodup_cons.1 n1).1 (z ▸ hc)
  ·exact n3 c (List.mem_cons_of_mem _ hc) b hb z.symm
 | p :: ps,q :: qs,h,nd,a + 1,i,p',q',c,r,e,e',ec=>by
  have nd:((p.1 :: p.2) ++ sqF ps).Nodup:=nd
  obtain ⟨n1,n2,n3⟩:=List.nodup_append.1 nd
  have hc:c ∈ sqF ps:=mem_sqF (show ps[a]? = some p' from e) (List.mem_cons_of_mem _ (List.mem_of_getElem? ec))
  refine ⟨(upd_ne fun z=>?_).trans h.1,h.2.1.frame fun b hb=>upd_ne fun z=>?_,Sqs.set h.2.2 n2 r e e' ec⟩
  ·exact n3 p.1 (List.mem_cons_self ..) c hc z
  ·exact n3 b (List.mem_cons_of_mem _ hb) c hc z
noncomputable def mF (n k:Nat) (lf ll lh:Addr):List (Str × V) :=
 putF "hands" (.ref lh) (putF "lasts" (.ref ll) (putF "firsts" (.ref lf) (putF "letters" (.int k) (putF "states" (.int n) []))))
theorem mF_states (n k:Nat) (lf ll lh:Addr):(mF n k lf ll lh).lookup ("states":Str) = some (.int n):=by
 unfold mF
 rw [look_ne _ _ (by decide +kernel),look_ne _ _ (by decide +kernel),look_ne _ _ (by decide +kernel),look_ne _ _ (by decide +kernel),look_same]
theorem mF_letters (n k:Nat) (lf ll lh:Addr):(mF n k lf ll lh).lookup ("letters":Str) = some (.int k):=by
 unfold mF
 rw [look_ne _ _ (by decide +kernel),look_ne _ _ (by decide +kernel),look_ne _ _ (by decide +kernel),look_same]
theorem mF_firsts (n k:Nat) (lf ll lh:Addr):(mF n k lf ll lh).lookup ("firsts":Str) = some (.ref lf):=by
 unfold mF
 rw [look_ne _ _ (by decide +kernel),look_ne _ _ (by decide +kernel),look_same]
theorem mF_lasts (n k:Nat) (lf ll lh:Addr):(mF n k lf ll lh).lookup ("lasts":Str) = some (.ref ll):=by
 unfold mF
 rw [look_ne _ _ (by decide +kernel),look_same]
theorem mF_hands (n k:Nat) (lf ll lh:Addr):(mF n k lf ll lh).lookup ("hands":Str) = some (.ref lh):=look_same ..
structure MachAt (C:Addr) (H:Hp) (a:Addr) (m:Wm.PM) (dx lf ll lh:Addr) (ps:List (Addr × List Addr)):Prop where
 ok:m.Ok
 ins:H a = some (.ins C dx (mF m.n m.k lf ll lh))
 fst:H lf = some (.lst (nums m.f))
 lst:H ll = some (.lst (nums m.l))
 hnd:H lh = some (.lst (ps.map fun p=>V.ref p.1))
 sqs:Sqs H ps m.h
 nd:(a :: lf :: ll :: lh :: sqF ps).Nodup
noncomputable def Mach (C:Addr) (H:Hp) (a:Addr) (m:Wm.PM) (S:List Addr):Prop:=∃ dx lf ll lh ps,MachAt C H a m dx lf ll lh ps ∧ S = a :: lf :: ll :: lh :: sqF ps
theorem Mach.frame {C:Addr} {H H':Hp} {a:Addr} {m:Wm.PM} {S:List Addr} (h:Mach C H a m S) (k:∀ b,b ∈ S → H' b = H b):Mach C H' a m S:=by
 obtain ⟨dx,lf,ll,lh,ps,M,rfl⟩:=h
 refine ⟨dx,lf,ll,lh,ps,⟨M.ok,?_,?_,?_,?_,?_,M.nd⟩,rfl⟩
 ·exact (k a (by simp)).trans M.ins
 ·exact (k lf (by simp)).trans M.fst
 ·exact (k ll (by simp)).trans M.lst
 ·exact (k lh (by simp)).trans M.hnd
 ·exact M.sqs.frame fun b hb=>k b (by simp [hb])
theorem upd_none {H:Hp} {a p:Addr} {o:HO} (h:upd H a o p = none):p ≠ a ∧ H p = none:=by
 have hne:p ≠ a:=fun z=>by rw [z,upd_same] at h; cases h
 exact ⟨hne,by rw [upd_ne hne] at h; exact h⟩
theorem upd_fresh {H H':Hp} {b:Addr} {o:HO} (s:Same H H') (hb:H' b = none):Same H (upd H' b o):=fun c u e=>by
 rw [upd_ne (ne_of_none (s c u e) hb)]
 exact s c u e
theorem same_refl (H:Hp):Same H H:=fun _ _ e=>e
theorem rep_flat (n:Nat) (x:V):(List.replicate n [x]).flatten = List.replicate n x:=by
 induction n with
 | zero=>rfl
 | succ n ih=>rw [List.replicate_succ,List.flatten_cons,ih]; rfl
theorem nums_rep (n x:Nat):nums (List.replicate n x) = List.replicate n (V.int (x:Int)):=by
 unfold nums
 rw [List.map_replicate]
theorem Rows.snoc {H:Hp}:∀ {as:List Addr} {rs:List (List Nat)},Rows H as rs → ∀ {a:Addr} {r:List Nat},H a = some (.lst (nums r)) → Rows H (as ++ [a]) (rs ++ [r])
 | [],[],_,a,r,e=>⟨e,trivial⟩
 | [],_ :: _,h,_,_,_=>h.elim
 | _ :: _,[],h,_,_,_=>h.elim
 | x :: as,y :: rs,h,a,r,e=>⟨h.1,Rows.snoc h.2 e⟩
theorem Sqs.snoc {H:Hp}:∀ {ps:List (Addr × List Addr)} {qs:List (List (List Nat))},Sqs H ps qs → ∀ {p:Addr × List Addr} {q:List (List Nat)},H p.1 = some (.lst (p.2.map V.ref)) → Rows H p.2 q → Sqs H (ps ++ [p]) (qs ++ [q])
 | [],[],_,p,q,e,r=>⟨e,r,trivial⟩
 | [],_ :: _,h,_,_,_,_=>h.elim
 | _ :: _,[],h,_,_,_,_=>h.elim
 | x :: as,y :: rs,h,p,q,e,r=>⟨h.1,h.2.1,Sqs.snoc h.2.2 e r⟩
theorem sqF_snoc (ps:List (Addr × List Addr)) (p:Addr × List Addr):sqF (ps ++ [p]) = sqF ps ++ (p.1 :: p.2):=by
 unfold sqF
 rw [List.flatMap_append]
 simp
theorem Rows.none {H:Hp}:∀ {as:List Addr} {rs:List (List Nat)},Rows H as rs → ∀ b,b ∈ as → H b ≠ none
 | [],_,_,_,h=>by cases h
 | _ :: _,[],h,_,_=>h.elim
 | a :: as,r :: rs,h,b,hb=>by
  rcases List.mem_cons.1 hb with e | e
  ·subst e
   rw [h.1]
   intro z
   cases z
  ·exact Rows.none h.2 b e
theorem Sqs.none {H:Hp}:∀ {ps:List (Addr × List Addr)} {qs:List (List (List Nat))},Sqs H ps qs → ∀ b,b ∈ sqF ps → H b ≠ none
 | [],_,_,_,h=>by cases h
 | _ :: _,[],h,_,_=>h.elim
 | p :: ps,q :: qs,h,b,hb=>by
  have hb:b ∈ (p.1 :: p.2) ++ sqF ps:=hb
  rcases List.mem_append.1 hb with e | e
  ·rcases List.mem_cons.1 e with e | e
   ·subst e
    rw [h.1]
    intro z
    cases z
   ·exact h.2.1.none b e
  ·exact Sqs.none h.2.2 b e
theorem same_eq {H H':Hp} (s:Same H H') {b:Addr} (h:H b ≠ none):H' b = H b:=by
 cases e:H b with
 | none=>exact absurd e h
 | some o=>exact s b o e
theorem Rows.same {H H':Hp} {as:List Addr} {rs:List (List Nat)} (h:Rows H as rs) (s:Same H H'):Rows H' as rs:=h.frame fun b hb=>same_eq s (h.none b hb)
theorem Sqs.same {H H':Hp} {ps:List (Addr × List Addr)} {qs:List (List (List Nat))} (h:Sqs H ps qs) (s:Same H H'):Sqs H' ps qs:=h.frame fun b hb=>same_eq s (h.none b hb)
end Wp
namespace Wp
open PySem PySem.Spec PyProof.Rows L2
theorem call_sum {X:Cx} (hc:X.calm = true):CallR X (.builtin "sum") (fun xs H Q=>∃ (p:Addr) (ns:List Int),xs = [V.ref p] ∧ SqL X.K H p (ns.map V.int) ∧ Q (.int ns.sum) H):=by
 intro pins s σ H xs us Q I r h
 obtain ⟨p,ns,rfl,hq,q⟩:=h
 obtain ⟨u,rfl,rx⟩:=vals1 r
 cases rx
 obtain ⟨its,r',pl,hz⟩:=I.list hq
 have hi:IntsAre its ns:=intsAre_of r'
 obtain ⟨ys,hx⟩:=hi.allInts.items
 have hl':s.heap.IsList p (intItems ys):=hx ▸ pl.isList
 refine sum_intListG (I.ok.hd hc) hl' fun h' tk t' hk=>?_
 have e1:ns = ys.toList.map (·.1):=by
  rw [← nums_intItems,← hx]
  exact (show numsOf its.toArray.toList = ns from hi.numsOf).symm
 have e2:preSum (numAt ys) ys.size = ns.sum:=by
  rw [preSum_eq,List.take_of_length_le (by simp),e1]
 rw [e2]
 exact ⟨.int ns.sum,H,I.kept hk,⟨_,rfl⟩,q⟩
noncomputable def Ev (te:TE) (σ:L2.St) (H:Hp) (v:V):Prop:=∀ H',Same H H' → ∀ R:VK,(∀ H'',Same H' H'' → R v H'') → te σ H' R
noncomputable def EvL (te:TE) (σ:L2.St) (H:Hp) (xs:List V):Prop:=∀ H',Same H H' → ∀ R:VK,(∀ H'' p,Same H' H'' → H' p = none → H'' p = some (.lst xs) → R (.ref p) H'') → te σ H' R
noncomputable def EvT (tt:TT) (σ:L2.St) (H:Hp) (b:Bool):Prop:=∀ H',Same H H' → ∀ R:Bool → Hp → Prop,(∀ H'',Same H' H'' → R b H'') → tt σ H' R
noncomputable def EvA (ta:TA) (σ:L2.St) (H:Hp) (vs:List V):Prop:=∀ H',Same H H' → ∀ R:List V → Hp → Prop,(∀ H'',Same H' H'' → R vs H'') → ta σ H' R
section
variable {K:PySem.W.Frag} {σ:L2.St} {H H1:Hp} {te ta tb:TE} {v:V} {xs:List V}
theorem ev_var {i:Nat} (h:σ[i]? = some (some v)):Ev (tVar i) σ H v:=fun H' _ R k=>⟨v,h,k H' (Same.refl H')⟩
theorem ev_c:Ev (tC v) σ H v:=fun H' _ R k=>k H' (Same.refl H')
theorem ev_op0 {g:Int → Int → V} {i j:Int} (ha:Ev ta σ H (.int i)) (hb:Ev tb σ H (.int j)):Ev (tOp (rI0 g) ta tb) σ H (g i j):=fun H' s R k =>
 ha H' s _ fun H1 s1=>hb H1 (s.trans s1) _ fun H2 s2=>⟨i,j,rfl,rfl,k H2 (s1.trans s2)⟩
theorem ev_op {C:Int → Int → Prop} {g:Int → Int → V} {i j:Int} (ha:Ev ta σ H (.int i)) (hb:Ev tb σ H (.int j)) (hc:C i j):Ev (tOp (rI C g) ta tb) σ H (g i j):=fun H' s R k =>
 ha H' s _ fun H1 s1=>hb H1 (s.trans s1) _ fun H2 s2=>⟨i,j,rfl,rfl,hc,k H2 (s1.trans s2)⟩
theorem ev_un {g:Int → V} {i:Int} (ha:Ev ta σ H (.int i)):Ev (tUn (rU g) ta) σ H (g i):=fun H' s R k =>
 ha H' s _ fun H1 s1=>⟨i,rfl,k H1 s1⟩
theorem ev_fld {a C dx:Addr} {fs:List (Str × V)} {f:Str} (ha:Ev ta σ H (.ref a)) (hi:H a = some (.ins C dx fs)) (cl:Cls K C) (na:NoAttr K C f) (hl:fs.lookup f = some v):Ev (tFld K ta f) σ H v:=fun H' s R k =>
 ha H' s _ fun H1 s1=>⟨a,C,dx,fs,v,rfl,s.trans s1 _ _ hi,cl,na,hl,k H1 s1⟩
theorem ev_ix {p:Addr} {i:Int} (ha:Ev ta σ H (.ref p)) (hb:Ev tb σ H (.int i)) (hq:SqL K H p xs) (hv:atI xs i = some v):Ev (tOp (rIxL K) ta tb) σ H v:=fun H' s R k =>
 ha H' s _ fun H1 s1=>hb H1 (s.trans s1) _ fun H2 s2=>⟨p,xs,i,v,rfl,rfl,((s.trans s1).trans s2).seq hq,hv,k H2 (s1.trans s2)⟩
theorem ev_len {p:Addr} {ta:TA} (ha:EvA ta σ H [.ref p]) (hq:SqL K H p xs):Ev (tCB (fun xs H Q=>∃ p ys,xs = [V.ref p] ∧ (SqL K H p ys ∨ SqT K H p ys) ∧ Q (.int ys.length) H) ta) σ H (.int xs.length):=fun H' s R k =>
 ha H' s _ fun H1 s1=>⟨p,xs,rfl,.inl ((s.trans s1).seq hq),k H1 s1⟩
theorem ev_sumL {ns:List Int} (ha:EvL te σ H (ns.map V.int)):Ev (tCB (fun xs H Q=>∃ (p:Addr) (ns:List Int),xs = [V.ref p] ∧ SqL K H p (ns.map V.int) ∧ Q (.int ns.sum) H) (tCons te tNil)) σ H (.int ns.sum):=fun H' s R k =>
 ha H' s _ fun H1 p s1 _ hp=>⟨p,ns,rfl,SqL.of hp,k H1 s1⟩
theorem ev_if {tt:TT} {b:Bool} (h:EvT tt σ H b) (ha:b = true → Ev ta σ H v) (hb:b = false → Ev tb σ H v):Ev (tIf tt ta tb) σ H v:=fun H' s R k =>
 h H' s _ fun H1 s1=>by
  cases b with
  | true=>exact (if_pos rfl).mpr (ha rfl H1 (s.trans s1) R fun H2 s2=>k H2 (s1.trans s2))
  | false=>exact (if_neg Bool.false_ne_true).mpr (hb rfl H1 (s.trans s1) R fun H2 s2=>k H2 (s1.trans s2))
theorem eva_nil:EvA tNil σ H []:=fun H' _ R k=>k H' (Same.refl H')
theorem eva_cons {t:TA} {vs:List V} (ha:Ev ta σ H v) (hr:EvA t σ H vs):EvA (tCons ta t) σ H (v :: vs):=fun H' s R k =>
 ha H' s _ fun H1 s1=>hr H1 (s.trans s1) _ fun H2 s2=>k H2 (s1.trans s2)
theorem evl_lst {t:TA} (ha:EvA t σ H xs) (hz:xs.length ≤ sizeLine):EvL (tLst t) σ H xs:=fun H' s R k =>
 ha H' s _ fun H1 s1=>⟨hz,fun p hp=>k _ p (s1.trans fun c u e=>by rw [upd_ne (ne_of_none e hp)]; exact e) (s1.free hp) upd_same⟩
theorem evl_rep {n:Int} (ha:EvL ta σ H xs) (hb:Ev tb σ H (.int n)) (h0:-(2 ^ 63) ≤ n) (h1:n < 2 ^ 63) (hz:xs.length * n.toNat ≤ sizeLine):EvL (tOp rRep ta tb) σ H (List.replicate n.toNat xs).flatten:=fun H' s R k =>
 ha H' s _ fun H1 l s1 _ hl=>hb H1 (s.trans s1) _ fun H2 s2=>⟨l,n,xs,rfl,rfl,s2 _ _ hl,h0,h1,hz,fun p hp =>
  k _ p ((s1.trans s2).trans fun c u e=>by rw [upd_ne (ne_of_none e hp)]; exact e) ((s1.trans s2).free hp) upd_same⟩
theorem evl_cat {l b:Addr} {ys:List V} (ha:Ev ta σ H (.ref l)) (hb:Ev tb σ H (.ref b)) (hl:H l = some (.lst xs)) (hb':H b = some (.lst ys)) (hz:xs.length + ys.length ≤ sizeLine):EvL (tOp rCat ta tb) σ H (xs ++ ys):=fun H' s R k =>
 ha H' s _ fun H1 s1=>hb H1 (s.trans s1) _ fun H2 s2=>⟨l,b,xs,ys,rfl,rfl,((s.trans s1).trans s2) _ _ hl,((s.trans s1).trans s2) _ _ hb',hz,fun p hp =>
  k _ p ((s1.trans s2).trans fun c u e=>by rw [upd_ne (ne_of_none e hp)]; exact e) ((s1.trans s2).free hp) upd_same⟩
theorem evl_catR {l:Addr} {ys:List V} (ha:Ev ta σ H (.ref l)) (hb:EvL tb σ H ys) (hl:H l = some (.lst xs)) (hz:xs.length + ys.length ≤ sizeLine):EvL (tOp rCat ta tb) σ H (xs ++ ys):=fun H' s R k =>
 ha H' s _ fun H1 s1=>hb H1 (s.trans s1) _ fun H2 b s2 _ hb'=>⟨l,b,xs,ys,rfl,rfl,((s.trans s1).trans s2) _ _ hl,hb',hz,fun p hp =>
  k _ p ((s1.trans s2).trans fun c u e=>by rw [upd_ne (ne_of_none e hp)]; exact e) ((s1.trans s2).free hp) upd_same⟩
theorem evl_list {p:Addr} {ta:TA} (ha:EvA ta σ H [.ref p]) (hq:SqL K H p xs):EvL (tCB (fun xs H Q=>∃ p ys,xs = [V.ref p] ∧ (SqL K H p ys ∨ SqT K H p ys) ∧ ∀ l,H l = none → Q (.ref l) (upd H l (.lst ys))) ta) σ H xs:=fun H' s R k =>
 ha H' s _ fun H1 s1=>⟨p,xs,rfl,.inl ((s.trans s1).seq hq),fun l hl=>k _ l (s1.trans fun c u e=>by rw [upd_ne (ne_of_none e hl)]; exact e) (s1.free hl) upd_same⟩
theorem lc_same {H':Hp} {D:Addr} {acc:List V} {y:V} (hD:H D = none) (s:Same H H'):Same H (upd H' D (.lst (acc ++ [y]))):=fun c u e=>by
 rw [upd_ne (ne_of_none e hD)]
 exact s c u e
theorem evl_range {ta:TA} {j n:Nat} {vs:List Nat} {g:Nat → V} (hn:EvA ta σ H [.int n]) (hz:n ≤ 1000000) (hw:∀ v,wipe ((wipe σ vs).set j (some v)) vs = wipe σ vs)
  (he:∀ i,i < n → Ev te ((wipe σ vs).set j (some (.int i))) H (g i)):EvL (tLc (iRng1 ta) (gName j) tYes te vs) σ H ((List.range n).map g):=fun H' s R k =>
 hn H' s _ fun H1 s1=>⟨n,rfl,by omega,by omega,fun D hD=>lc_range (n:=n) (fun i H2=>Same H1 H2 ∧ H2 D = some (.lst ((List.range i).map g)))
  ⟨fun c u e=>by rw [upd_ne (ne_of_none e hD)]; exact e,upd_same⟩
  (fun i H2 hi ⟨s2,hd⟩=>⟨hw _,by
   have h0:(0:Int) + (i:Int) = i:=by omega
   rw [h0]
   refine he i hi H2 ((s.trans s1).trans s2) _ fun H3 s3=>⟨_,s3 _ _ hd,?_,?_,?_⟩
   ·rw [List.length_map,List.length_range,sizeLine_eq]; omega
   ·exact lc_same hD (s2.trans s3)
   ·rw [upd_same,List.range_succ,List.map_append]; rfl⟩)
  fun H2 ⟨s2,hd⟩=>k H2 D (s1.trans s2) (s1.free hD) hd⟩
theorem evl_in {ta:TE} {j:Nat} {vs:List Nat} {p:Addr} {g:Nat → V} (hp:Ev ta σ H (.ref p)) (hq:SqL K H p xs) (hz:xs.length ≤ 1000000) (hw:∀ v,wipe ((wipe σ vs).set j (some v)) vs = wipe σ vs)
  (he:∀ i x,xs[i]? = some x → Ev te ((wipe σ vs).set j (some x)) H (g i)):EvL (tLc (iList K ta) (gName j) tYes te vs) σ H ((List.range xs.length).map g):=fun H' s R k =>
 hp H' s _ fun H1 s1=>⟨p,rfl,⟨xs,(s.trans s1).seq hq⟩,fun D hD=>lc_list (K:=K) (a:=p) (xs:=xs) (fun i H2=>Same H1 H2 ∧ H2 D = some (.lst ((List.range i).map g)))
  ⟨fun c u e=>by rw [upd_ne (ne_of_none e hD)]; exact e,upd_same⟩
  (fun i H2 _ ⟨s2,_⟩=>((s.trans s1).trans s2).seq hq)
  (fun i x H2 hx ⟨s2,hd⟩=>⟨hw _,by
   refine he i x hx H2 ((s.trans s1).trans s2) _ fun H3 s3=>⟨_,s3 _ _ hd,?_,?_,?_⟩
   ·have:=(List.getElem?_eq_some_iff.mp hx).1
    rw [List.length_map,List.length_range,sizeLine_eq]; omega
   ·exact lc_same hD (s2.trans s3)
   ·rw [upd_same,List.range_succ,List.map_append]; rfl⟩)
  fun H2 ⟨s2,hd⟩=>k H2 D (s1.trans s2) (s1.free hD) hd⟩
theorem evl_zip {ta:TA} {j1 j2:Nat} {vs:List Nat} {p q:Addr} {ys:List V} {n:Nat} {g:Nat → V} (hp:EvA ta σ H [.ref p,.ref q]) (hx:SqL K H p xs) (hy:SqL K H q ys) (hlx:n ≤ xs.length) (hly:n ≤ ys.length) (he':xs.length = n ∨ ys.length = n)
  (hz:n ≤ 1000000) (hw:∀ v u,wipe (((wipe σ vs).set j1 (some v)).set j2 (some u)) vs = wipe σ vs)
  (he:∀ i x y,xs[i]? = some x → ys[i]? = some y → Ev te (((wipe σ vs).set j1 (some x)).set j2 (some y)) H (g i)) :
  EvL (tLc (iZip K ta) (gTup K 2 (gCons (gName j1) (gCons (gName j2) gNil))) tYes te vs) σ H ((List.range n).map g):=fun H' s R k =>
 hp H' s _ fun H1 s1=>⟨p,q,xs,ys,rfl,(s.trans s1).seq hx,(s.trans s1).seq hy,fun D hD=>by
  refine ⟨fun i m H2=>m = n - i ∧ i ≤ n ∧ Same H1 H2 ∧ H2 D = some (.lst ((List.range i).map g)),⟨n,rfl,Nat.zero_le _,fun c u e=>by rw [upd_ne (ne_of_none e hD)]; exact e,upd_same⟩,?_⟩
  rintro i m H2 ⟨rfl,hi,s2,hd⟩
  have sx:=((s.trans s1).trans s2).seq hx
  have sy:=((s.trans s1).trans s2).seq hy
  by_cases hlt:i < n
  ·have h1:i < xs.length:=by omega
   have h2:i < ys.length:=by omega
   refine .inr ⟨⟨xs,ys,xs[i],ys[i],sx,sy,List.getElem?_eq_getElem h1,List.getElem?_eq_getElem h2⟩,fun H3=>Same H1 H3 ∧ H3 D = some (.lst ((List.range (i + 1)).map g)),fun H3 h=>⟨n - (i + 1),by omega,rfl,hlt,h⟩,?_⟩
   rintro v H3 ⟨T,x,y,rfl,hT,rfl,hx',hy'⟩
   have ex:=hx' _ sx
   have ey:=hy' _ sy
   have s3:Same H2 (upd H2 T (.tup [x,y])):=fun c u e=>by rw [upd_ne (ne_of_none e hT)]; exact e
   refine ⟨T,[x,y],rfl,SqT.of upd_same,rfl,x,[y],rfl,y,[],rfl,rfl,hw _ _,?_⟩
   refine he i x y ex ey _ (((s.trans s1).trans s2).trans s3) _ fun H4 s4=>⟨_,s4 _ _ (s3 _ _ hd),?_,?_,?_⟩
   ·rw [List.length_map,List.length_range,sizeLine_eq]; omega
   ·exact lc_same hD ((s2.trans s3).trans s4)
   ·rw [upd_same,List.range_succ,List.map_append]; rfl
  ·have e:i = n:=by omega
   subst e
   refine .inl ⟨⟨xs,ys,sx,sy,?_⟩,k H2 D (s1.trans s2) (s1.free hD) hd⟩
   rcases he' with z | z
   ·exact .inl (by omega)
   ·exact .inr (by omega)⟩
theorem evt_test (h:Ev te σ H (.bl b)):EvT (tTest te) σ H b:=fun H' s R k=>h H' s _ fun H1 s1=>⟨b,rfl,k H1 s1⟩
theorem ev_chain {g g':Int → Int → Bool} {tc:TE} {x y z:Int} (ha:Ev ta σ H (.int x)) (hb:Ev tb σ H (.int y)) (hc:Ev tc σ H (.int z)):Ev (tChain (rI0 fun i j=>.bl (g i j)) (rI0 fun i j=>.bl (g' i j)) ta tb tc) σ H (.bl (g x y && g' y z)):=fun H' s R k =>
 ha H' s _ fun H1 s1=>hb H1 (s.trans s1) _ fun H2 s2=>⟨x,y,rfl,rfl,g x y,rfl,by
  cases e:g x y with
  | false =>
   rw [e] at k
   exact (if_neg Bool.false_ne_true).mpr (k H2 (s1.trans s2))
  | true =>
   rw [e] at k
   exact (if_pos rfl).mpr (hc H2 ((s.trans s1).trans s2) _ fun H3 s3=>⟨y,z,rfl,rfl,k H3 ((s1.trans s2).trans s3)⟩)⟩
theorem st_set {D:Ends} {i:Nat} {H0:Hp} (h:Ev te σ H0 v) (s:Same H0 H) (k:∀ H1,Same H H1 → D.nx (σ.set i (some v)) H1):tAsg te (gName i) D σ H:=h H s _ k
theorem st_setL {D:Ends} {i:Nat} {H0:Hp} (h:EvL te σ H0 xs) (s:Same H0 H) (k:∀ H1 p,Same H H1 → H p = none → H1 p = some (.lst xs) → D.nx (σ.set i (some (.ref p))) H1):tAsg te (gName i) D σ H:=h H s _ k
theorem st_ret {D:Ends} {H0:Hp} (h:Ev te σ H0 v) (s:Same H0 H) (k:∀ H1,Same H H1 → D.rt v H1):tRet te D σ H:=h H s _ k
theorem st_retL {D:Ends} {H0:Hp} (h:EvL te σ H0 xs) (s:Same H0 H) (k:∀ H1 p,Same H H1 → H p = none → H1 p = some (.lst xs) → D.rt (.ref p) H1):tRet te D σ H:=h H s _ k
noncomputable def EvM (te:TE) (σ:L2.St) (H:Hp) (rows:List (List Nat)):Prop:=∀ H',Same H H' → ∀ R:VK,(∀ H'' p as,Same H' H'' → H'' p = some (.lst (as.map V.ref)) → Rows H'' as rows → (p :: as).Nodup → (∀ b,b ∈ p :: as → H' b = none) → R (.ref p) H'') → te σ H' R
noncomputable def EvS (te:TE) (σ:L2.St) (H:Hp) (qs:List (List (List Nat))):Prop:=∀ H',Same H H' → ∀ R:VK,(∀ H'' p ps,Same H' H'' → H'' p = some (.lst (ps.map fun (x:Addr × List Addr)=>V.ref x.1)) → Sqs H'' ps qs → (p :: sqF ps).Nodup → (∀ b,b ∈ p :: sqF ps → H' b = none) → R (.ref p) H'') → te σ H' R
structure GrowM (H1 H2:Hp) (D:Addr) (as:List Addr) (rows:List (List Nat)):Prop where
 same:Same H1 H2
 lst:H2 D = some (.lst (as.map V.ref))
 rows:Rows H2 as rows
 nd:(D :: as).Nodup
 fr:∀ b,b ∈ as → H1 b = none
theorem GrowM.start {D:Addr} (hD:H1 D = none):GrowM H1 (upd H1 D (.lst [])) D [] [] :=
 ⟨fun c u e=>by rw [upd_ne (ne_of_none e hD)]; exact e,upd_same,trivial,by simp,fun b hb=>by cases hb⟩
theorem GrowM.next {H2 H3:Hp} {D q:Addr} {as:List Addr} {rows:List (List Nat)} {r:List Nat} (g:GrowM H1 H2 D as rows) (hD:H1 D = none) (s:Same H2 H3) (hq:H2 q = none) (hr:H3 q = some (.lst (nums r))) :
  GrowM H1 (upd H3 D (.lst (as.map V.ref ++ [V.ref q]))) D (as ++ [q]) (rows ++ [r]):=by
 have nq:q ≠ D:=(ne_of_none g.lst hq).symm
 have nD:∀ b,b ∈ as → b ≠ D:=fun b hb z=>(List.nodup_cons.1 g.nd).1 (z ▸ hb)
 refine ⟨fun c u e=>?_,?_,?_,?_,fun b hb=>?_⟩
 ·rw [upd_ne (ne_of_none e hD)]; exact s _ _ (g.same _ _ e)
 ·rw [upd_same,List.map_append]; rfl
 ·refine Rows.snoc ((g.rows.same s).frame fun b hb=>upd_ne (nD b hb)) ?_
  rw [upd_ne nq]; exact hr
 ·rw [← List.cons_append,List.nodup_append]
  refine ⟨g.nd,by simp,fun x hx y hy z=>?_⟩
  have:y = q:=by simpa using hy
  subst this
  rcases List.mem_cons.1 hx with e | e
  ·exact nq (z ▸ e)
  ·exact g.rows.none x e (by rw [z]; exact hq)
 ·rcases List.mem_append.1 hb with hb | hb
  ·exact g.fr b hb
  ·have:b = q:=by simpa using hb
   subst this
   exact g.same.free hq
structure GrowS (H1 H2:Hp) (D:Addr) (ps:List (Addr × List Addr)) (qs:List (List (List Nat))):Prop where
 same:Same H1 H2
 lst:H2 D = some (.lst (ps.map fun (x:Addr × List Addr)=>V.ref x.1))
 sqs:Sqs H2 ps qs
 nd:(D :: sqF ps).Nodup
 fr:∀ b,b ∈ sqF ps → H1 b = none
theorem GrowS.start {D:Addr} (hD:H1 D = none):GrowS H1 (upd H1 D (.lst [])) D [] [] :=
 ⟨fun c u e=>by rw [upd_ne (ne_of_none e hD)]; exact e,upd_same,trivial,by simp [sqF],fun b hb=>by cases hb⟩
theorem GrowS.next {H2 H3:Hp} {D q:Addr} {as:List Addr} {ps:List (Addr × List Addr)} {qs:List (List (List Nat))} {rows:List (List Nat)} (g:GrowS H1 H2 D ps qs) (hD:H1 D = none) (s:Same H2 H3) (hq:H3 q = some (.lst (as.map V.ref))) (hr:Rows H3 as rows)
  (nd:(q :: as).Nodup) (fr:∀ b,b ∈ q :: as → H2 b = none):GrowS H1 (upd H3 D (.lst ((ps.map fun (x:Addr × List Addr)=>V.ref x.1) ++ [V.ref q]))) D (ps ++ [(q,as)]) (qs ++ [rows]):=by
 have nDq:∀ b,b ∈ q :: as → b ≠ D:=fun b hb z=>by
  have:=fr b hb
  rw [z,g.lst] at this; cases this
 have nD:∀ b,b ∈ sqF ps → b ≠ D:=fun b hb z=>(List.nodup_cons.1 g.nd).1 (z ▸ hb)
 refine ⟨fun c u e=>?_,?_,?_,?_,fun b hb=>?_⟩
 ·rw [upd_ne (ne_of_none e hD)]; exact s _ _ (g.same _ _ e)
 ·rw [upd_same,List.map_append]; rfl
 ·refine Sqs.snoc ((g.sqs.same s).frame fun b hb=>upd_ne (nD b hb)) ?_ ?_
  ·rw [upd_ne (nDq q (List.mem_cons_self ..))]; exact hq
  ·exact hr.frame fun b hb=>upd_ne (nDq b (List.mem_cons_of_mem _ hb))
 ·rw [sqF_snoc,← List.cons_append,List.nodup_append]
  refine ⟨g.nd,nd,fun x hx y hy z=>?_⟩
  subst z
  have hy:=fr x hy
  rcases List.mem_cons.1 hx with e | e
  ·subst e; rw [g.lst] at hy; cases hy
  ·exact g.sqs.none x e hy
 ·rw [sqF_snoc] at hb
  rcases List.mem_append.1 hb with hb | hb
  ·exact g.fr b hb
  ·exact g.same.free (fr b hb)
theorem evm_range {ta:TA} {j n:Nat} {vs:List Nat} {g:Nat → List Nat} (hn:EvA ta σ H [.int n]) (hz:n ≤ 1000000) (hw:∀ v,wipe ((wipe σ vs).set j (some v)) vs = wipe σ vs)
  (he:∀ i,i < n → EvL te ((wipe σ vs).set j (some (.int i))) H (nums (g i))):EvM (tLc (iRng1 ta) (gName j) tYes te vs) σ H ((List.range n).map g):=fun H' s R k =>
 hn H' s _ fun H1 s1=>⟨n,rfl,by omega,by omega,fun D hD=>lc_range (n:=n) (fun i H2=>∃ as,as.length = i ∧ GrowM H1 H2 D as ((List.range i).map g)) ⟨[],rfl,GrowM.start hD⟩
  (fun i H2 hi ⟨as,hl,G⟩=>⟨hw _,by
   have h0:(0:Int) + (i:Int) = i:=by omega
   rw [h0]
   refine he i hi H2 ((s.trans s1).trans G.same) _ fun H3 q s3 hq hr=>⟨_,s3 _ _ G.lst,?_,as ++ [q],?_,?_⟩
   ·rw [List.length_map,hl,sizeLine_eq]; omega
   ·rw [List.length_append,hl]; rfl
   ·rw [List.range_succ,List.map_append]
    exact G.next hD s3 hq hr⟩)
  fun H2 ⟨as,hl,G⟩=>k H2 D as (s1.trans G.same) G.lst G.rows G.nd fun b hb=>by
   rcases List.mem_cons.1 hb with e | e
   ·exact s1.free (e ▸ hD)
   ·exact s1.free (G.fr b e)⟩
theorem evs_range {ta:TA} {j n:Nat} {vs:List Nat} {g:Nat → List (List Nat)} (hn:EvA ta σ H [.int n]) (hz:n ≤ 1000000) (hw:∀ v,wipe ((wipe σ vs).set j (some v)) vs = wipe σ vs)
  (he:∀ i,i < n → EvM te ((wipe σ vs).set j (some (.int i))) H (g i)):EvS (tLc (iRng1 ta) (gName j) tYes te vs) σ H ((List.range n).map g):=fun H' s R k =>
 hn H' s _ fun H1 s1=>⟨n,rfl,by omega,by omega,fun D hD=>lc_range (n:=n) (fun i H2=>∃ ps,ps.length = i ∧ GrowS H1 H2 D ps ((List.range i).map g)) ⟨[],rfl,GrowS.start hD⟩
  (fun i H2 hi ⟨ps,hl,G⟩=>⟨hw _,by
   have h0:(0:Int) + (i:Int) = i:=by omega
   rw [h0]
   refine he i hi H2 ((s.trans s1).trans G.same) _ fun H3 q as s3 hq hr nd fr=>⟨_,s3 _ _ G.lst,?_,ps ++ [(q,as)],?_,?_⟩
   ·rw [List.length_map,hl,sizeLine_eq]; omega
   ·rw [List.length_append,hl]; rfl
   ·rw [List.range_succ,List.map_append]
    exact G.next hD s3 hq hr nd fr⟩)
  fun H2 ⟨ps,hl,G⟩=>k H2 D ps (s1.trans G.same) G.lst G.sqs G.nd fun b hb=>by
   rcases List.mem_cons.1 hb with e | e
   ·exact s1.free (e ▸ hD)
   ·exact s1.free (G.fr b e)⟩
theorem evm_in {ta:TE} {j:Nat} {vs:List Nat} {p:Addr} {g:Nat → List Nat} (hp:Ev ta σ H (.ref p)) (hq:SqL K H p xs) (hz:xs.length ≤ 1000000) (hw:∀ v,wipe ((wipe σ vs).set j (some v)) vs = wipe σ vs)
  (he:∀ i x,xs[i]? = some x → EvL te ((wipe σ vs).set j (some x)) H (nums (g i))):EvM (tLc (iList K ta) (gName j) tYes te vs) σ H ((List.range xs.length).map g):=fun H' s R k =>
 hp H' s _ fun H1 s1=>⟨p,rfl,⟨xs,(s.trans s1).seq hq⟩,fun D hD=>lc_list (K:=K) (a:=p) (xs:=xs) (fun i H2=>∃ as,as.length = i ∧ GrowM H1 H2 D as ((List.range i).map g)) ⟨[],rfl,GrowM.start hD⟩
  (fun i H2 _ ⟨as,_,G⟩=>((s.trans s1).trans G.same).seq hq)
  (fun i x H2 hx ⟨as,hl,G⟩=>⟨hw _,by
   refine he i x hx H2 ((s.trans s1).trans G.same) _ fun H3 q s3 hq hr=>⟨_,s3 _ _ G.lst,?_,as ++ [q],?_,?_⟩
   ·have:=(List.getElem?_eq_some_iff.mp hx).1
    rw [List.length_map,hl,sizeLine_eq]; omega
   ·rw [List.length_append,hl]; rfl
   ·rw [List.range_succ,List.map_append]
    exact G.next hD s3 hq hr⟩)
  fun H2 ⟨as,hl,G⟩=>k H2 D as (s1.trans G.same) G.lst G.rows G.nd fun b hb=>by
   rcases List.mem_cons.1 hb with e | e
   ·exact s1.free (e ▸ hD)
   ·exact s1.free (G.fr b e)⟩
end
end Wp
namespace Wp
open PySem PySem.Spec PyProof.Rows L2
theorem itY {b:Bool} {A B:Prop} (h:b = true) (a:A):if b = true then A else B:=by rw [if_pos h]; exact a
theorem itN {b:Bool} {A B:Prop} (h:b = false) (a:B):if b = true then A else B:=by
 rw [if_neg (by rw [h]; exact Bool.false_ne_true)]; exact a
theorem ne_no {x:Nat} (h:x = 0):(!decide ((x:Int) = 0)) = false:=by rw [h]; rfl
theorem ne_yes {x:Nat} (h:¬ x = 0):(!decide ((x:Int) = 0)) = true:=by rw [decide_eq_false (by omega)]; rfl
theorem boolsAre_of:∀ {bs:List Bool} {us:List Value},Vals (bs.map V.bl) us → LSm.BoolsAre us bs
 | [],_,h=>by cases h; exact .nil
 | b :: bs,_,h=>by
  cases h with
  | cons r rs =>
   cases r
   exact .cons b (boolsAre_of rs)
theorem call_all {X:Cx} (hc:X.calm = true):CallR X (.builtin "all") (fun xs H Q=>∃ (p:Addr) (bs:List Bool),xs = [V.ref p] ∧ SqL X.K H p (bs.map V.bl) ∧ Q (.bl (bs.all id)) H):=by
 intro pins s σ H xs us Q I r h
 obtain ⟨p,bs,rfl,hq,q⟩:=h
 obtain ⟨u,rfl,rx⟩:=vals1 r
 cases rx
 obtain ⟨its,r',pl,hz⟩:=I.list hq
 have hb:=boolsAre_of r'
 have hl:s.heap.IsList p its.toArray:=pl.isList
 have hlt:p < s.heap.objs.size:=by obtain ⟨_,e,_⟩:=hl; exact Heap.lt_size e
 refine call_all_walk (wpAny_pyIter_list hl ?_)
 refine ⟨s.heap.objs.size,[s.heap.objs.size,p],[s.heap.objs.size],its.toArray.size,_,_,fun i=>(bs[i]?).getD true,rfl,Walks.list (A:=X.A.in1) (I.ok.hd hc) _ p (Nat.ne_of_lt hlt) its.toArray,
  ⟨⟨_,Heap.get?_push_size _ rfl,rfl,rfl⟩,hl.push _⟩,fun i v s' Q' E' hP hQ=>?_,fun h' tk hk=>?_⟩
 ·obtain ⟨b,e,rfl⟩:=hb.get i v (by simpa using hP)
  simp only [e,Option.getD_some] at hQ
  exact wpAny_truthy_bool hQ
 ·have e:((List.range its.toArray.size).all fun i=>(bs[i]?).getD true) = bs.all id:=by
   rw [List.size_toArray,hb.length]; exact LSm.range_all bs
  rw [e]
  exact ⟨.bl (bs.all id),H,I.kept (LSm.kept_iter hk),rfl,q⟩
noncomputable def EvAP (ta:TA) (σ:L2.St) (H:Hp) (Ψ:List V → Hp → Prop):Prop:=∀ H',Same H H' → ∀ R:List V → Hp → Prop,(∀ vs H'',Same H' H'' → Ψ vs H'' → R vs H'') → ta σ H' R
section
variable {K:PySem.W.Frag} {σ:L2.St} {H H1:Hp} {te ta tb:TE} {t:TA} {v:V} {xs:List V} {Ψ:List V → Hp → Prop} {E:XK}
theorem evap_nil:EvAP tNil σ H (fun vs _=>vs = []):=fun H' _ R k=>k [] H' (Same.refl H') rfl
theorem evap_v (h:Ev te σ H v) (r:EvAP t σ H Ψ):EvAP (tCons te t) σ H (fun vs H1=>∃ us,vs = v :: us ∧ Ψ us H1):=fun H' s R k =>
 h H' s _ fun H1 s1=>r H1 (s.trans s1) _ fun us H2 s2 q=>k _ H2 (s1.trans s2) ⟨us,rfl,q⟩
theorem evap_l (h:EvL te σ H xs) (r:EvAP t σ H Ψ):EvAP (tCons te t) σ H (fun vs H1=>∃ p us,vs = .ref p :: us ∧ H1 p = some (.lst xs) ∧ Ψ us H1):=fun H' s R k =>
 h H' s _ fun H1 p s1 _ hp=>r H1 (s.trans s1) _ fun us H2 s2 q=>k _ H2 (s1.trans s2) ⟨p,us,rfl,s2 _ _ hp,q⟩
theorem evap_m {rows:List (List Nat)} (h:EvM te σ H rows) (r:EvAP t σ H Ψ):EvAP (tCons te t) σ H (fun vs H1=>∃ p as us,vs = .ref p :: us ∧ H1 p = some (.lst (as.map V.ref)) ∧ Rows H1 as rows ∧ Ψ us H1):=fun H' s R k =>
 h H' s _ fun H1 p as s1 hp hr _ _=>r H1 (s.trans s1) _ fun us H2 s2 q=>k _ H2 (s1.trans s2) ⟨p,as,us,rfl,s2 _ _ hp,hr.same s2,q⟩
noncomputable def SpV (D:List V → Hp → V → Prop):Sp:=fun vs H Q _=>∃ v,D vs H v ∧ ∀ H',Same H H' → Q v H'
noncomputable def SpL (D:List V → Hp → List V → Prop):Sp:=fun vs H Q _=>∃ xs,D vs H xs ∧ ∀ H' p,Same H H' → H p = none → H' p = some (.lst xs) → Q (.ref p) H'
noncomputable def SpM (D:List V → Hp → List (List Nat) → Prop):Sp:=fun vs H Q _=>∃ rows,D vs H rows ∧ ∀ H' p as,Same H H' → H' p = some (.lst (as.map V.ref)) → Rows H' as rows → (p :: as).Nodup → (∀ b,b ∈ p :: as → H b = none) → Q (.ref p) H'
noncomputable def SpMach (C:Addr) (D:List V → Hp → Wm.PM → Prop):Sp:=fun vs H Q _=>∃ m,D vs H m ∧ ∀ H' a S,Same H H' → Mach C H' a m S → (∀ b,b ∈ S → H b = none) → Q (.ref a) H'
theorem ev_callR {sp:Sp} (h:EvAP t σ H Ψ) (k:∀ vs H',Same H H' → Ψ vs H' → ∀ R:VK,(∀ H'',Same H' H'' → R v H'') → sp vs H' R E):Ev (tCall sp [] E t) σ H v:=fun H' s R kk =>
 h H' s _ fun vs H1 s1 q=>by
  show sp (vs ++ []) H1 R E
  rw [List.append_nil]
  exact k vs H1 (s.trans s1) q R fun H2 s2=>kk H2 (s1.trans s2)
theorem ev_call {D:List V → Hp → V → Prop} (h:EvAP t σ H Ψ) (k:∀ vs H',Same H H' → Ψ vs H' → D vs H' v):Ev (tCall (SpV D) [] E t) σ H v :=
 ev_callR h fun vs H' s q R kk=>⟨v,k vs H' s q,kk⟩
theorem evl_call {D:List V → Hp → List V → Prop} (h:EvAP t σ H Ψ) (k:∀ vs H',Same H H' → Ψ vs H' → D vs H' xs):EvL (tCall (SpL D) [] E t) σ H xs:=fun H' s R kk =>
 h H' s _ fun vs H1 s1 q=>by
  show SpL D (vs ++ []) H1 R E
  rw [List.append_nil]
  exact ⟨xs,k vs H1 (s.trans s1) q,fun H2 p s2 hp hl=>kk H2 p (s1.trans s2) (s1.free hp) hl⟩
theorem evm_call {D:List V → Hp → List (List Nat) → Prop} {rows:List (List Nat)} (h:EvAP t σ H Ψ) (k:∀ vs H',Same H H' → Ψ vs H' → D vs H' rows):EvM (tCall (SpM D) [] E t) σ H rows:=fun H' s R kk =>
 h H' s _ fun vs H1 s1 q=>by
  show SpM D (vs ++ []) H1 R E
  rw [List.append_nil]
  exact ⟨rows,k vs H1 (s.trans s1) q,fun H2 p as s2 hp hr nd fr=>kk H2 p as (s1.trans s2) hp hr nd fun b hb=>s1.free (fr b hb)⟩
theorem ev_methR {sp:Sp} {C a dx:Addr} {fs:List (Str × V)} {m:Str} (ha:Ev ta σ H (.ref a)) (hi:H a = some (.ins C dx fs)) (hl:fs.lookup m = none) (h:EvAP t σ H Ψ)
  (k:∀ vs H',Same H H' → Ψ vs H' → ∀ R:VK,(∀ H'',Same H' H'' → R v H'') → sp (.ref a :: vs) H' R E):Ev (tMeth C m sp [] E ta t) σ H v:=fun H' s R kk =>
 ha H' s _ fun H1 s1=>⟨a,dx,fs,rfl,s.trans s1 _ _ hi,hl,h H1 (s.trans s1) _ fun vs H2 s2 q=>by
  show sp (.ref a :: (vs ++ [])) H2 R E
  rw [List.append_nil]
  exact k vs H2 ((s.trans s1).trans s2) q R fun H3 s3=>kk H3 ((s1.trans s2).trans s3)⟩
theorem evl_meth {D:List V → Hp → List V → Prop} {C a dx:Addr} {fs:List (Str × V)} {m:Str} (ha:Ev ta σ H (.ref a)) (hi:H a = some (.ins C dx fs)) (hl:fs.lookup m = none) (h:EvAP t σ H Ψ)
  (k:∀ vs H',Same H H' → Ψ vs H' → D (.ref a :: vs) H' xs):EvL (tMeth C m (SpL D) [] E ta t) σ H xs:=fun H' s R kk =>
 ha H' s _ fun H1 s1=>⟨a,dx,fs,rfl,s.trans s1 _ _ hi,hl,h H1 (s.trans s1) _ fun vs H2 s2 q=>by
  show SpL D (.ref a :: (vs ++ [])) H2 R E
  rw [List.append_nil]
  exact ⟨xs,k vs H2 ((s.trans s1).trans s2) q,fun H3 p s3 hp hl=>kk H3 p ((s1.trans s2).trans s3) ((s1.trans s2).free hp) hl⟩⟩
theorem ev_allL {bs:List Bool} (ha:EvL te σ H (bs.map V.bl)):Ev (tCB (fun xs H Q=>∃ (p:Addr) (bs:List Bool),xs = [V.ref p] ∧ SqL K H p (bs.map V.bl) ∧ Q (.bl (bs.all id)) H) (tCons te tNil)) σ H (.bl (bs.all id)):=fun H' s R k =>
 ha H' s _ fun H1 p s1 _ hp=>⟨p,bs,rfl,SqL.of hp,k H1 s1⟩
theorem eva_1 (h:Ev te σ H v):EvA (tCons te tNil) σ H [v]:=eva_cons h eva_nil
theorem eva_2 {u:V} (h:Ev ta σ H v) (g:Ev tb σ H u):EvA (tCons ta (tCons tb tNil)) σ H [v,u]:=eva_cons h (eva_1 g)
theorem ev_mod {i j:Int} (ha:Ev ta σ H (.int i)) (hb:Ev tb σ H (.int j)) (hj:0 < j):Ev (tOp (rI (fun _ j=>0 < j) fun i j=>.int (i % j)) ta tb) σ H (.int (i % j)):=ev_op (C:=fun _ j=>0 < j) (g:=fun i j=>V.int (i % j)) ha hb hj
theorem ev_mul {i j:Int} (ha:Ev ta σ H (.int i)) (hb:Ev tb σ H (.int j)) (hj:CMul i j):Ev (tOp (rI CMul fun i j=>.int (i * j)) ta tb) σ H (.int (i * j)):=ev_op (C:=CMul) (g:=fun i j=>V.int (i * j)) ha hb hj
theorem ev_add {i j:Int} (ha:Ev ta σ H (.int i)) (hb:Ev tb σ H (.int j)):Ev (tOp (rI0 fun i j=>.int (i + j)) ta tb) σ H (.int (i + j)):=ev_op0 (g:=fun i j=>V.int (i + j)) ha hb
theorem ev_sub {i j:Int} (ha:Ev ta σ H (.int i)) (hb:Ev tb σ H (.int j)):Ev (tOp (rI0 fun i j=>.int (i - j)) ta tb) σ H (.int (i - j)):=ev_op0 (g:=fun i j=>V.int (i - j)) ha hb
theorem cmul_nat {x y:Nat} (h:x < 2 ^ 64):CMul (x:Int) (y:Int):=.inl ⟨by omega,by omega⟩
theorem cmul_natR {x:Int} {y:Nat} (h:y < 2 ^ 64):CMul x (y:Int):=.inr ⟨by omega,by omega⟩
theorem Ev.eq {u:V} (h:Ev te σ H v) (e:v = u):Ev te σ H u:=e ▸ h
theorem EvL.eq {ys:List V} (h:EvL te σ H xs) (e:xs = ys):EvL te σ H ys:=e ▸ h
theorem EvM.eq {r s:List (List Nat)} (h:EvM te σ H r) (e:r = s):EvM te σ H s:=e ▸ h
theorem EvS.eq {r s:List (List (List Nat))} (h:EvS te σ H r) (e:r = s):EvS te σ H s:=e ▸ h
theorem st_setM {D:Ends} {i:Nat} {H0:Hp} {rows:List (List Nat)} (h:EvM te σ H0 rows) (s:Same H0 H) (k:∀ H1 p as,Same H H1 → H1 p = some (.lst (as.map V.ref)) → Rows H1 as rows → (p :: as).Nodup → (∀ b,b ∈ p :: as → H b = none) → D.nx (σ.set i (some (.ref p))) H1):tAsg te (gName i) D σ H:=h H s _ k
theorem st_setS {D:Ends} {i:Nat} {H0:Hp} {qs:List (List (List Nat))} (h:EvS te σ H0 qs) (s:Same H0 H) (k:∀ H1 p ps,Same H H1 → H1 p = some (.lst (ps.map fun (x:Addr × List Addr)=>V.ref x.1)) → Sqs H1 ps qs → (p :: sqF ps).Nodup → (∀ b,b ∈ p :: sqF ps → H b = none) → D.nx (σ.set i (some (.ref p))) H1):tAsg te (gName i) D σ H:=h H s _ k
theorem st_retM {D:Ends} {H0:Hp} {rows:List (List Nat)} (h:EvM te σ H0 rows) (s:Same H0 H) (k:∀ H1 p as,Same H H1 → H1 p = some (.lst (as.map V.ref)) → Rows H1 as rows → (p :: as).Nodup → (∀ b,b ∈ p :: as → H b = none) → D.rt (.ref p) H1):tRet te D σ H:=h H s _ k
theorem evl_catL {b:Addr} {ys:List V} (ha:EvL ta σ H xs) (hb:Ev tb σ H (.ref b)) (hb':H b = some (.lst ys)) (hz:xs.length + ys.length ≤ sizeLine):EvL (tOp rCat ta tb) σ H (xs ++ ys):=fun H' s R k =>
 ha H' s _ fun H1 l s1 _ hl=>hb H1 (s.trans s1) _ fun H2 s2=>⟨l,b,xs,ys,rfl,rfl,s2 _ _ hl,((s.trans s1).trans s2) _ _ hb',hz,fun p hp =>
  k _ p ((s1.trans s2).trans fun c u e=>by rw [upd_ne (ne_of_none e hp)]; exact e) ((s1.trans s2).free hp) upd_same⟩
theorem st_retMach {C:Addr} {Dd:List V → Hp → Wm.PM → Prop} {m:Wm.PM} {D:Ends} {H0:Hp} (h:EvAP t σ H0 Ψ) (kd:∀ vs H',Same H0 H' → Ψ vs H' → Dd vs H' m) (s:Same H0 H) (k:∀ H' a S,Same H H' → Mach C H' a m S → (∀ b,b ∈ S → H b = none) → D.rt (.ref a) H'):tRet (tCall (SpMach C Dd) [] E t) D σ H :=
 h H s _ fun vs H1 s1 q=>by
  show SpMach C Dd (vs ++ []) H1 _ E
  rw [List.append_nil]
  exact ⟨m,kd vs H1 (s.trans s1) q,fun H2 a S s2 M fr=>k H2 a S (s1.trans s2) M fun b hb=>s1.free (fr b hb)⟩
theorem st_forZ {ta:TA} {g:TG} {tb:TS} {D:Ends} {H0:Hp} {vs:List V} (h:EvA ta σ H0 vs) (s:Same H0 H) (k:∀ H1,Same H H1 → tFor (iZip K (fun _ H R=>R vs H)) g tb D σ H1):tFor (iZip K ta) g tb D σ H:=h H s _ k
theorem st_forE {ta:TA} {g:TG} {tb:TS} {D:Ends} {H0:Hp} {vs:List V} (h:EvA ta σ H0 vs) (s:Same H0 H) (k:∀ H1,Same H H1 → tFor (iEnum K (fun _ H R=>R vs H)) g tb D σ H1):tFor (iEnum K ta) g tb D σ H:=h H s _ k
theorem st_forR {ta:TA} {g:TG} {tb:TS} {D:Ends} {H0:Hp} {vs:List V} (h:EvA ta σ H0 vs) (s:Same H0 H) (k:∀ H1,Same H H1 → tFor (iRng1 (fun _ H R=>R vs H)) g tb D σ H1):tFor (iRng1 ta) g tb D σ H:=h H s _ k
theorem st_forL {g:TG} {tb:TS} {D:Ends} {H0:Hp} (h:Ev te σ H0 v) (s:Same H0 H) (k:∀ H1,Same H H1 → tFor (iList K (fun _ H R=>R v H)) g tb D σ H1):tFor (iList K te) g tb D σ H:=h H s _ k
theorem evm_zip {ta:TA} {j1 j2:Nat} {vs:List Nat} {p q:Addr} {ys:List V} {n:Nat} {g:Nat → List Nat} (hp:EvA ta σ H [.ref p,.ref q]) (hx:SqL K H p xs) (hy:SqL K H q ys) (hlx:n ≤ xs.length) (hly:n ≤ ys.length) (he':xs.length = n ∨ ys.length = n)
  (hz:n ≤ 1000000) (hw:∀ v u,wipe (((wipe σ vs).set j1 (some v)).set j2 (some u)) vs = wipe σ vs)
  (he:∀ i x y,xs[i]? = some x → ys[i]? = some y → EvL te (((wipe σ vs).set j1 (some x)).set j2 (some y)) H (nums (g i))) :
  EvM (tLc (iZip K ta) (gTup K 2 (gCons (gName j1) (gCons (gName j2) gNil))) tYes te vs) σ H ((List.range n).map g):=fun H' s R k =>
 hp H' s _ fun H1 s1=>⟨p,q,xs,ys,rfl,(s.trans s1).seq hx,(s.trans s1).seq hy,fun D hD=>by
  refine ⟨fun i m H2=>m = n - i ∧ i ≤ n ∧ ∃ as,as.length = i ∧ GrowM H1 H2 D as ((List.range i).map g),⟨n,rfl,Nat.zero_le _,[],rfl,GrowM.start hD⟩,?_⟩
  rintro i m H2 ⟨rfl,hi,as,hl,G⟩
  have sx:=((s.trans s1).trans G.same).seq hx
  have sy:=((s.trans s1).trans G.same).seq hy
  by_cases hlt:i < n
  ·have h1:i < xs.length:=by omega
   have h2:i < ys.length:=by omega
   refine .inr ⟨⟨xs,ys,xs[i],ys[i],sx,sy,List.getElem?_eq_getElem h1,List.getElem?_eq_getElem h2⟩,fun H3=>∃ as,as.length = i + 1 ∧ GrowM H1 H3 D as ((List.range (i + 1)).map g),fun H3 h=>⟨n - (i + 1),by omega,rfl,hlt,h⟩,?_⟩
   rintro v H3 ⟨T,x,y,rfl,hT,rfl,hx',hy'⟩
   have ex:=hx' _ sx
   have ey:=hy' _ sy
   have s3:Same H2 (upd H2 T (.tup [x,y])):=fun c u e=>by rw [upd_ne (ne_of_none e hT)]; exact e
   refine ⟨T,[x,y],rfl,SqT.of upd_same,rfl,x,[y],rfl,y,[],rfl,rfl,hw _ _,?_⟩
   refine he i x y ex ey _ (((s.trans s1).trans G.same).trans s3) _ fun H4 q' s4 hq' hr'=>⟨_,s4 _ _ (s3 _ _ G.lst),?_,as ++ [q'],?_,?_⟩
   ·rw [List.length_map,hl,sizeLine_eq]; omega
   ·rw [List.length_append,hl]; rfl
   ·rw [List.range_succ,List.map_append]
    exact G.next hD (s3.trans s4) (s3.free hq') hr'
  ·have e:i = n:=by omega
   subst e
   refine .inl ⟨⟨xs,ys,sx,sy,?_⟩,k H2 D as (s1.trans G.same) G.lst G.rows G.nd fun b hb=>?_⟩
   ·rcases he' with z | z
    ·exact .inl (by omega)
    ·exact .inr (by omega)
   ·rcases List.mem_cons.1 hb with e | e
    ·exact s1.free (e ▸ hD)
    ·exact s1.free (G.fr b e)⟩
theorem evs_zip {ta:TA} {j1 j2:Nat} {vs:List Nat} {p q:Addr} {ys:List V} {n:Nat} {g:Nat → List (List Nat)} (hp:EvA ta σ H [.ref p,.ref q]) (hx:SqL K H p xs) (hy:SqL K H q ys) (hlx:n ≤ xs.length) (hly:n ≤ ys.length) (he':xs.length = n ∨ ys.length = n)
  (hz:n ≤ 1000000) (hw:∀ v u,wipe (((wipe σ vs).set j1 (some v)).set j2 (some u)) vs = wipe σ vs)
  (he:∀ i x y,xs[i]? = some x → ys[i]? = some y → EvM te (((wipe σ vs).set j1 (some x)).set j2 (some y)) H (g i)) :
  EvS (tLc (iZip K ta) (gTup K 2 (gCons (gName j1) (gCons (gName j2) gNil))) tYes te vs) σ H ((List.range n).map g):=fun H' s R k =>
 hp H' s _ fun H1 s1=>⟨p,q,xs,ys,rfl,(s.trans s1).seq hx,(s.trans s1).seq hy,fun D hD=>by
  refine ⟨fun i m H2=>m = n - i ∧ i ≤ n ∧ ∃ ps,ps.length = i ∧ GrowS H1 H2 D ps ((List.range i).map g),⟨n,rfl,Nat.zero_le _,[],rfl,GrowS.start hD⟩,?_⟩
  rintro i m H2 ⟨rfl,hi,ps,hl,G⟩
  have sx:=((s.trans s1).trans G.same).seq hx
  have sy:=((s.trans s1).trans G.same).seq hy
  by_cases hlt:i < n
  ·have h1:i < xs.length:=by omega
   have h2:i < ys.length:=by omega
   refine .inr ⟨⟨xs,ys,xs[i],ys[i],sx,sy,List.getElem?_eq_getElem h1,List.getElem?_eq_getElem h2⟩,fun H3=>∃ ps,ps.length = i + 1 ∧ GrowS H1 H3 D ps ((List.range (i + 1)).map g),fun H3 h=>⟨n - (i + 1),by omega,rfl,hlt,h⟩,?_⟩
   rintro v H3 ⟨T,x,y,rfl,hT,rfl,hx',hy'⟩
   have ex:=hx' _ sx
   have ey:=hy' _ sy
   have s3:Same H2 (upd H2 T (.tup [x,y])):=fun c u e=>by rw [upd_ne (ne_of_none e hT)]; exact e
   refine ⟨T,[x,y],rfl,SqT.of upd_same,rfl,x,[y],rfl,y,[],rfl,rfl,hw _ _,?_⟩
   refine he i x y ex ey _ (((s.trans s1).trans G.same).trans s3) _ fun H4 q' as s4 hq' hr' nd fr=>⟨_,s4 _ _ (s3 _ _ G.lst),?_,ps ++ [(q',as)],?_,?_⟩
   ·rw [List.length_map,hl,sizeLine_eq]; omega
   ·rw [List.length_append,hl]; rfl
   ·rw [List.range_succ,List.map_append]
    exact G.next hD (s3.trans s4) hq' hr' nd fun b hb=>s3.free (fr b hb)
  ·have e:i = n:=by omega
   subst e
   refine .inl ⟨⟨xs,ys,sx,sy,?_⟩,k H2 D ps (s1.trans G.same) G.lst G.sqs G.nd fun b hb=>?_⟩
   ·rcases he' with z | z
    ·exact .inl (by omega)
    ·exact .inr (by omega)
   ·rcases List.mem_cons.1 hb with e | e
    ·exact s1.free (e ▸ hD)
    ·exact s1.free (G.fr b e)⟩
theorem evs_in {ta:TE} {j:Nat} {vs:List Nat} {p:Addr} {g:Nat → List (List Nat)} (hp:Ev ta σ H (.ref p)) (hq:SqL K H p xs) (hz:xs.length ≤ 1000000) (hw:∀ v,wipe ((wipe σ vs).set j (some v)) vs = wipe σ vs)
  (he:∀ i x,xs[i]? = some x → EvM te ((wipe σ vs).set j (some x)) H (g i)):EvS (tLc (iList K ta) (gName j) tYes te vs) σ H ((List.range xs.length).map g):=fun H' s R k =>
 hp H' s _ fun H1 s1=>⟨p,rfl,⟨xs,(s.trans s1).seq hq⟩,fun D hD=>lc_list (K:=K) (a:=p) (xs:=xs) (fun i H2=>∃ ps,ps.length = i ∧ GrowS H1 H2 D ps ((List.range i).map g)) ⟨[],rfl,GrowS.start hD⟩
  (fun i H2 _ ⟨ps,_,G⟩=>((s.trans s1).trans G.same).seq hq)
  (fun i x H2 hx ⟨ps,hl,G⟩=>⟨hw _,by
   refine he i x hx H2 ((s.trans s1).trans G.same) _ fun H3 q as s3 hq hr nd fr=>⟨_,s3 _ _ G.lst,?_,ps ++ [(q,as)],?_,?_⟩
   ·have:=(List.getElem?_eq_some_iff.mp hx).1
    rw [List.length_map,hl,sizeLine_eq]; omega
   ·rw [List.length_append,hl]; rfl
   ·rw [List.range_succ,List.map_append]
    exact G.next hD s3 hq hr nd fr⟩)
  fun H2 ⟨ps,hl,G⟩=>k H2 D ps (s1.trans G.same) G.lst G.sqs G.nd fun b hb=>by
   rcases List.mem_cons.1 hb with e | e
   ·exact s1.free (e ▸ hD)
   ·exact s1.free (G.fr b e)⟩
end
theorem nums_len (l:List Nat):(nums l).length = l.length:=List.length_map ..
theorem nums_at {l:List Nat} {i:Nat} {x:V} (h:(nums l)[i]? = some x):i < l.length ∧ x = .int ((l.getD i 0:Nat):Int):=by
 have hi:=(List.getElem?_eq_some_iff.mp h).1
 rw [nums_len] at hi
 refine ⟨hi,?_⟩
 unfold nums at h
 rw [List.getElem?_map,List.getElem?_eq_getElem hi] at h
 rw [Wm.getD_lt hi]
 exact (Option.some.inj h).symm
theorem nums_range (n:Nat) (g:Nat → Nat):(List.range n).map (fun i=>V.int ((g i:Nat):Int)) = nums ((List.range n).map g):=by
 unfold nums
 rw [List.map_map]
 rfl
theorem nums_get' {l:List Nat} {i:Nat} (h:i < l.length):(nums l)[i]? = some (.int ((l.getD i 0:Nat):Int)):=by
 unfold nums
 rw [List.getElem?_map,List.getElem?_eq_getElem h,Wm.getD_lt h]
 rfl
theorem Rows.at {H:Hp} {as:List Addr} {rows:List (List Nat)} (h:Rows H as rows) {i:Nat} {x:V} (hx:(as.map V.ref)[i]? = some x):∃ a,x = .ref a ∧ i < rows.length ∧ as[i]? = some a ∧ H a = some (.lst (nums (rows.getD i []))):=by
 rw [List.getElem?_map] at hx
 cases e:as[i]? with
 | none=>rw [e] at hx; cases hx
 | some a =>
  rw [e] at hx
  have hx:V.ref a = x:=Option.some.inj hx
  have hi:i < rows.length:=by rw [← h.len]; exact (List.getElem?_eq_some_iff.mp e).1
  obtain ⟨b,eb,hb⟩:=h.get (List.getElem?_eq_getElem hi)
  rw [e] at eb
  obtain rfl:=Option.some.inj eb
  exact ⟨a,hx.symm,hi,rfl,by rw [Wm.getD_lt hi]; exact hb⟩
theorem Sqs.at {H:Hp} {ps:List (Addr × List Addr)} {qs:List (List (List Nat))} (h:Sqs H ps qs) {i:Nat} {x:V} (hx:(ps.map fun (p:Addr × List Addr)=>V.ref p.1)[i]? = some x):∃ p,x = .ref p.1 ∧ i < qs.length ∧ ps[i]? = some p ∧ H p.1 = some (.lst (p.2.map V.ref)) ∧ Rows H p.2 (qs.getD i []):=by
 rw [List.getElem?_map] at hx
 cases e:ps[i]? with
 | none=>rw [e] at hx; cases hx
 | some p =>
  rw [e] at hx
  have hx:V.ref p.1 = x:=Option.some.inj hx
  have hi:i < qs.length:=by rw [← h.len]; exact (List.getElem?_eq_some_iff.mp e).1
  obtain ⟨b,eb,hb⟩:=h.get (List.getElem?_eq_getElem hi)
  rw [e] at eb
  obtain rfl:=Option.some.inj eb
  exact ⟨p,hx.symm,hi,rfl,by rw [Wm.getD_lt hi]; exact hb⟩
theorem Rows.append {H:Hp}:∀ {as bs:List Addr} {rs ss:List (List Nat)},Rows H as rs → Rows H bs ss → Rows H (as ++ bs) (rs ++ ss)
 | [],_,[],_,_,g=>g
 | [],_,_ :: _,_,h,_=>h.elim
 | _ :: _,_,[],_,h,_=>h.elim
 | a :: as,bs,r :: rs,ss,h,g=>⟨h.1,Rows.append h.2 g⟩
theorem Rows.getA {H:Hp} {as:List Addr} {rows:List (List Nat)} (h:Rows H as rows) {i:Nat} (hi:i < rows.length):∃ a,as[i]? = some a ∧ H a = some (.lst (nums (rows.getD i []))):=by
 obtain ⟨a,e,ha⟩:=h.get (List.getElem?_eq_getElem hi)
 exact ⟨a,e,by rw [Wm.getD_lt hi]; exact ha⟩
theorem Mach.same {C:Addr} {H H':Hp} {a:Addr} {m:Wm.PM} {S:List Addr} (h:Mach C H a m S) (s:Same H H'):Mach C H' a m S:=by
 obtain ⟨dx,lf,ll,lh,ps,M,rfl⟩:=h
 exact ⟨dx,lf,ll,lh,ps,⟨M.ok,s _ _ M.ins,s _ _ M.fst,s _ _ M.lst,s _ _ M.hnd,M.sqs.same s,M.nd⟩,rfl⟩
theorem MachAt.same {C:Addr} {H H':Hp} {a:Addr} {m:Wm.PM} {dx lf ll lh:Addr} {ps:List (Addr × List Addr)} (M:MachAt C H a m dx lf ll lh ps) (s:Same H H'):MachAt C H' a m dx lf ll lh ps :=
 ⟨M.ok,s _ _ M.ins,s _ _ M.fst,s _ _ M.lst,s _ _ M.hnd,M.sqs.same s,M.nd⟩
theorem mF_no (n k:Nat) (lf ll lh:Addr) {m:Str} (h1:¬ m = "states") (h2:¬ m = "letters") (h3:¬ m = "firsts") (h4:¬ m = "lasts") (h5:¬ m = "hands"):(mF n k lf ll lh).lookup m = none:=by
 unfold mF
 rw [look_ne _ _ h5,look_ne _ _ h4,look_ne _ _ h3,look_ne _ _ h2,look_ne _ _ h1]
 rfl
theorem Mach.none {C:Addr} {H:Hp} {a:Addr} {m:Wm.PM} {S:List Addr} (h:Mach C H a m S):∀ b,b ∈ S → H b ≠ none:=by
 obtain ⟨dx,lf,ll,lh,ps,M,rfl⟩:=h
 intro b hb z
 rcases List.mem_cons.1 hb with e | hb
 ·rw [e,M.ins] at z; cases z
 rcases List.mem_cons.1 hb with e | hb
 ·rw [e,M.fst] at z; cases z
 rcases List.mem_cons.1 hb with e | hb
 ·rw [e,M.lst] at z; cases z
 rcases List.mem_cons.1 hb with e | hb
 ·rw [e,M.hnd] at z; cases z
 ·exact M.sqs.none b hb z
theorem Mach.nodup {C:Addr} {H:Hp} {a:Addr} {m:Wm.PM} {S:List Addr} (h:Mach C H a m S):S.Nodup:=by
 obtain ⟨dx,lf,ll,lh,ps,M,rfl⟩:=h
 exact M.nd
theorem Mach.ok {C:Addr} {H:Hp} {a:Addr} {m:Wm.PM} {S:List Addr} (h:Mach C H a m S):m.Ok:=by
 obtain ⟨dx,lf,ll,lh,ps,M,rfl⟩:=h
 exact M.ok
theorem MachAt.sq {C:Addr} {H:Hp} {a:Addr} {m:Wm.PM} {dx lf ll lh:Addr} {ps:List (Addr × List Addr)} (M:MachAt C H a m dx lf ll lh ps) {b:Nat} (hb:b < m.k):∃ p,ps[b]? = some p ∧ H p.1 = some (.lst (p.2.map V.ref)) ∧ Rows H p.2 (m.h.getD b []):=by
 have hb':b < m.h.length:=by rw [M.ok.hl]; exact hb
 obtain ⟨p,e,h1,h2⟩:=M.sqs.get (List.getElem?_eq_getElem hb')
 exact ⟨p,e,h1,by rw [Wm.getD_lt hb']; exact h2⟩
end Wp
namespace Wp
open PySem PySem.Spec PyProof.Rows L2
open PySem.W (Codec)
noncomputable def top (i:Nat):Stmt:=PySem.Challenge.pw_wordworths_s01_answers.main.body.getD i (.Pass ⟨0,0,0,0⟩)
noncomputable abbrev st_is_place:Stmt:=top 2
noncomputable abbrev st_rows_of_zeros:Stmt:=top 3
noncomputable abbrev st_Machine_init:Stmt:=inClass (top 4) 0
noncomputable abbrev st_Machine_has_state:Stmt:=inClass (top 4) 1
noncomputable abbrev st_Machine_has_letter:Stmt:=inClass (top 4) 2
noncomputable abbrev st_machine_of_zeros:Stmt:=top 5
noncomputable abbrev st_Places_init:Stmt:=inClass (top 6) 0
noncomputable abbrev st_Places_make_empty:Stmt:=inClass (top 6) 1
noncomputable abbrev st_Places_machine_at:Stmt:=inClass (top 6) 2
noncomputable abbrev st_Places_put:Stmt:=inClass (top 6) 3
noncomputable abbrev st_is_number:Stmt:=top 9
noncomputable abbrev st_inverse:Stmt:=top 10
noncomputable abbrev st_multiple:Stmt:=top 11
noncomputable abbrev st_difference:Stmt:=top 12
noncomputable abbrev st_sum_of_products:Stmt:=top 13
noncomputable abbrev st_sum_of_multiples:Stmt:=top 14
noncomputable abbrev st_place_of_first_number:Stmt:=top 15
noncomputable abbrev st_Space_init:Stmt:=inClass (top 16) 0
noncomputable abbrev st_Space_factors:Stmt:=inClass (top 16) 1
noncomputable abbrev st_Space_rest:Stmt:=inClass (top 16) 2
noncomputable abbrev st_Space_grows_by:Stmt:=inClass (top 16) 3
noncomputable abbrev st_is_word:Stmt:=top 19
noncomputable abbrev st_handed_on:Stmt:=top 20
noncomputable abbrev st_worth_of_held:Stmt:=top 21
noncomputable abbrev st_worth_of:Stmt:=top 22
noncomputable abbrev st_is_kind:Stmt:=top 28
noncomputable abbrev st_states_made:Stmt:=top 29
noncomputable abbrev st_side_by_side:Stmt:=top 30
noncomputable abbrev st_added:Stmt:=top 31
noncomputable abbrev st_products:Stmt:=top 32
noncomputable abbrev st_products_of_rows:Stmt:=top 33
noncomputable abbrev st_multiplied:Stmt:=top 34
noncomputable abbrev st_bridge_between:Stmt:=top 35
noncomputable abbrev st_one_behind_the_other:Stmt:=top 36
noncomputable abbrev st_column:Stmt:=top 37
noncomputable abbrev st_handed_back:Stmt:=top 38
noncomputable abbrev st_turned:Stmt:=top 39
noncomputable abbrev st_made_of_two:Stmt:=top 40
noncomputable abbrev st_Reached_init:Stmt:=inClass (top 42) 0
noncomputable abbrev st_Reached_look_at:Stmt:=inClass (top 42) 1
noncomputable abbrev st_Reached_go_on_from:Stmt:=inClass (top 42) 2
noncomputable abbrev st_space_reached:Stmt:=top 43
noncomputable abbrev st_first_word_worth_something:Stmt:=top 44
noncomputable abbrev st_negative:Stmt:=top 45
noncomputable abbrev st_first_word_apart:Stmt:=top 46
noncomputable abbrev st_handed_within:Stmt:=top 48
noncomputable abbrev st_only_reached:Stmt:=top 49
noncomputable abbrev st_fewest:Stmt:=top 50
noncomputable abbrev st_Reader_init:Stmt:=inClass (top 59) 0
noncomputable abbrev st_Reader_at_end:Stmt:=inClass (top 59) 1
noncomputable abbrev st_Reader_take:Stmt:=inClass (top 59) 2
noncomputable abbrev st_Reader_take_row:Stmt:=inClass (top 59) 3
noncomputable abbrev st_begin:Stmt:=top 60
noncomputable abbrev st_new:Stmt:=top 61
noncomputable abbrev st_machine_that_takes:Stmt:=top 62
noncomputable abbrev st_first:Stmt:=top 63
noncomputable abbrev st_last:Stmt:=top 64
noncomputable abbrev st_hand:Stmt:=top 65
noncomputable abbrev st_worth:Stmt:=top 66
noncomputable abbrev st_are_comparable:Stmt:=top 67
noncomputable abbrev st_make:Stmt:=top 68
noncomputable abbrev st_most_letters_in:Stmt:=top 69
noncomputable abbrev st_apart:Stmt:=top 70
noncomputable abbrev st_least:Stmt:=top 71
noncomputable abbrev st_answers_at:Stmt:=top 73
noncomputable abbrev st_answers:Stmt:=top 74
set_option genInjectivity false in
set_option genSizeOf false in
structure Adr where
 c_Machine:Addr
 c_Places:Addr
 c_Space:Addr
 c_Reached:Addr
 c_Reader:Addr
 f_is_place:Addr
 d_is_place:FuncData
 f_rows_of_zeros:Addr
 d_rows_of_zeros:FuncData
 f_Machine_init:Addr
 d_Machine_init:FuncData
 f_Machine_has_state:Addr
 d_Machine_has_state:FuncData
 f_Machine_has_letter:Addr
 d_Machine_has_letter:FuncData
 f_machine_of_zeros:Addr
 d_machine_of_zeros:FuncData
 f_Places_init:Addr
 d_Places_init:FuncData
 f_Places_make_empty:Addr
 d_Places_make_empty:FuncData
 f_Places_machine_at:Addr
 d_Places_machine_at:FuncData
 f_Places_put:Addr
 d_Places_put:FuncData
 f_is_number:Addr
 d_is_number:FuncData
 f_inverse:Addr
 d_inverse:FuncData
 f_multiple:Addr
 d_multiple:FuncData
 f_difference:Addr
 d_difference:FuncData
 f_sum_of_products:Addr
 d_sum_of_products:FuncData
 f_sum_of_multiples:Addr
 d_sum_of_multiples:FuncData
 f_place_of_first_number:Addr
 d_place_of_first_number:FuncData
 f_Space_init:Addr
 d_Space_init:FuncData
 f_Space_factors:Addr
 d_Space_factors:FuncData
 f_Space_rest:Addr
 d_Space_rest:FuncData
 f_Space_grows_by:Addr
 d_Space_grows_by:FuncData
 f_is_word:Addr
 d_is_word:FuncData
 f_handed_on:Addr
 d_handed_on:FuncData
 f_worth_of_held:Addr
 d_worth_of_held:FuncData
 f_worth_of:Addr
 d_worth_of:FuncData
 f_is_kind:Addr
 d_is_kind:FuncData
 f_states_made:Addr
 d_states_made:FuncData
 f_side_by_side:Addr
 d_side_by_side:FuncData
 f_added:Addr
 d_added:FuncData
 f_products:Addr
 d_products:FuncData
 f_products_of_rows:Addr
 d_products_of_rows:FuncData
 f_multiplied:Addr
 d_multiplied:FuncData
 f_bridge_between:Addr
 d_bridge_between:FuncData
 f_one_behind_the_other:Addr
 d_one_behind_the_other:FuncData
 f_column:Addr
 d_column:FuncData
 f_handed_back:Addr
 d_handed_back:FuncData
 f_turned:Addr
 d_turned:FuncData
 f_made_of_two:Addr
 d_made_of_two:FuncData
 f_Reached_init:Addr
 d_Reached_init:FuncData
 f_Reached_look_at:Addr
 d_Reached_look_at:FuncData
 f_Reached_go_on_from:Addr
 d_Reached_go_on_from:FuncData
 f_space_reached:Addr
 d_space_reached:FuncData
 f_first_word_worth_something:Addr
 d_first_word_worth_something:FuncData
 f_negative:Addr
 d_negative:FuncData
 f_first_word_apart:Addr
 d_first_word_apart:FuncData
 f_handed_within:Addr
 d_handed_within:FuncData
 f_only_reached:Addr
 d_only_reached:FuncData
 f_fewest:Addr
 d_fewest:FuncData
 f_Reader_init:Addr
 d_Reader_init:FuncData
 f_Reader_at_end:Addr
 d_Reader_at_end:FuncData
 f_Reader_take:Addr
 d_Reader_take:FuncData
 f_Reader_take_row:Addr
 d_Reader_take_row:FuncData
 f_begin:Addr
 d_begin:FuncData
 f_new:Addr
 d_new:FuncData
 f_machine_that_takes:Addr
 d_machine_that_takes:FuncData
 f_first:Addr
 d_first:FuncData
 f_last:Addr
 d_last:FuncData
 f_hand:Addr
 d_hand:FuncData
 f_worth:Addr
 d_worth:FuncData
 f_are_comparable:Addr
 d_are_comparable:FuncData
 f_make:Addr
 d_make:FuncData
 f_most_letters_in:Addr
 d_most_letters_in:FuncData
 f_apart:Addr
 d_apart:FuncData
 f_least:Addr
 d_least:FuncData
 f_answers_at:Addr
 d_answers_at:FuncData
 f_answers:Addr
 d_answers:FuncData
 k_PLACES:Tok
 k_P:Tok
 k_MOST_NUMBERS:Tok
 k_ADDED:Tok
 k_MULTIPLIED:Tok
 k_BEHIND:Tok
 k_TURNED:Tok
 k_MOST_STATES:Tok
 k_MOST_LETTERS:Tok
 k_MOST_ROOM:Tok
 k_DONE:Tok
 k_REFUSED:Tok
 k_TOO_MANY:Tok
 k_THE_SAME:Tok
 k_CALLS:Addr
structure Txt (K:PySem.W.Frag) (mg:Str → Option Value) (t:Adr):Prop where
 cl_Machine:Cls K t.c_Machine
 m_Machine:mg "Machine" = some (.ref t.c_Machine)
 na_Machine_states:NoAttr K t.c_Machine "states"
 na_Machine_letters:NoAttr K t.c_Machine "letters"
 na_Machine_firsts:NoAttr K t.c_Machine "firsts"
 na_Machine_lasts:NoAttr K t.c_Machine "lasts"
 na_Machine_hands:NoAttr K t.c_Machine "hands"
 mk_Machine:Mk K t.c_Machine t.f_Machine_init
 cl_Places:Cls K t.c_Places
 m_Places:mg "Places" = some (.ref t.c_Places)
 na_Places_machines:NoAttr K t.c_Places "machines"
 mk_Places:Mk K t.c_Places t.f_Places_init
 cl_Space:Cls K t.c_Space
 m_Space:mg "Space" = some (.ref t.c_Space)
 na_Space_rows:NoAttr K t.c_Space "rows"
 na_Space_pivots:NoAttr K t.c_Space "pivots"
 mk_Space:Mk K t.c_Space t.f_Space_init
 cl_Reached:Cls K t.c_Reached
 m_Reached:mg "Reached" = some (.ref t.c_Reached)
 na_Reached_machine:NoAttr K t.c_Reached "machine"
 na_Reached_space:NoAttr K t.c_Reached "space"
 na_Reached_words:NoAttr K t.c_Reached "words"
 na_Reached_held:NoAttr K t.c_Reached "held"
 mk_Reached:Mk K t.c_Reached t.f_Reached_init
 cl_Reader:Cls K t.c_Reader
 m_Reader:mg "Reader" = some (.ref t.c_Reader)
 na_Reader_calls:NoAttr K t.c_Reader "calls"
 na_Reader_position:NoAttr K t.c_Reader "position"
 mk_Reader:Mk K t.c_Reader t.f_Reader_init
 F_is_place:Fun K "is_place" "is_place" st_is_place t.f_is_place t.d_is_place
 m_is_place:mg "is_place" = some (.ref t.f_is_place)
 F_rows_of_zeros:Fun K "rows_of_zeros" "rows_of_zeros" st_rows_of_zeros t.f_rows_of_zeros t.d_rows_of_zeros
 m_rows_of_zeros:mg "rows_of_zeros" = some (.ref t.f_rows_of_zeros)
 F_Machine_init:Fun K "__init__" "Machine.__init__" st_Machine_init t.f_Machine_init t.d_Machine_init
 F_Machine_has_state:Fun K "has_state" "Machine.has_state" st_Machine_has_state t.f_Machine_has_state t.d_Machine_has_state
 me_Machine_has_state:Meth K t.c_Machine "has_state" t.f_Machine_has_state
 F_Machine_has_letter:Fun K "has_letter" "Machine.has_letter" st_Machine_has_letter t.f_Machine_has_letter t.d_Machine_has_letter
 me_Machine_has_letter:Meth K t.c_Machine "has_letter" t.f_Machine_has_letter
 F_machine_of_zeros:Fun K "machine_of_zeros" "machine_of_zeros" st_machine_of_zeros t.f_machine_of_zeros t.d_machine_of_zeros
 m_machine_of_zeros:mg "machine_of_zeros" = some (.ref t.f_machine_of_zeros)
 F_Places_init:Fun K "__init__" "Places.__init__" st_Places_init t.f_Places_init t.d_Places_init
 F_Places_make_empty:Fun K "make_empty" "Places.make_empty" st_Places_make_empty t.f_Places_make_empty t.d_Places_make_empty
 me_Places_make_empty:Meth K t.c_Places "make_empty" t.f_Places_make_empty
 F_Places_machine_at:Fun K "machine_at" "Places.machine_at" st_Places_machine_at t.f_Places_machine_at t.d_Places_machine_at
 me_Places_machine_at:Meth K t.c_Places "machine_at" t.f_Places_machine_at
 F_Places_put:Fun K "put" "Places.put" st_Places_put t.f_Places_put t.d_Places_put
 me_Places_put:Meth K t.c_Places "put" t.f_Places_put
 F_is_number:Fun K "is_number" "is_number" st_is_number t.f_is_number t.d_is_number
 m_is_number:mg "is_number" = some (.ref t.f_is_number)
 F_inverse:Fun K "inverse" "inverse" st_inverse t.f_inverse t.d_inverse
 m_inverse:mg "inverse" = some (.ref t.f_inverse)
 F_multiple:Fun K "multiple" "multiple" st_multiple t.f_multiple t.d_multiple
 m_multiple:mg "multiple" = some (.ref t.f_multiple)
 F_difference:Fun K "difference" "difference" st_difference t.f_difference t.d_difference
 m_difference:mg "difference" = some (.ref t.f_difference)
 F_sum_of_products:Fun K "sum_of_products" "sum_of_products" st_sum_of_products t.f_sum_of_products t.d_sum_of_products
 m_sum_of_products:mg "sum_of_products" = some (.ref t.f_sum_of_products)
 F_sum_of_multiples:Fun K "sum_of_multiples" "sum_of_multiples" st_sum_of_multiples t.f_sum_of_multiples t.d_sum_of_multiples
 m_sum_of_multiples:mg "sum_of_multiples" = some (.ref t.f_sum_of_multiples)
 F_place_of_first_number:Fun K "place_of_first_number" "place_of_first_number" st_place_of_first_number t.f_place_of_first_number t.d_place_of_first_number
 m_place_of_first_number:mg "place_of_first_number" = some (.ref t.f_place_of_first_number)
 F_Space_init:Fun K "__init__" "Space.__init__" st_Space_init t.f_Space_init t.d_Space_init
 F_Space_factors:Fun K "factors" "Space.factors" st_Space_factors t.f_Space_factors t.d_Space_factors
 me_Space_factors:Meth K t.c_Space "factors" t.f_Space_factors
 F_Space_rest:Fun K "rest" "Space.rest" st_Space_rest t.f_Space_rest t.d_Space_rest
 me_Space_rest:Meth K t.c_Space "rest" t.f_Space_rest
 F_Space_grows_by:Fun K "grows_by" "Space.grows_by" st_Space_grows_by t.f_Space_grows_by t.d_Space_grows_by
 me_Space_grows_by:Meth K t.c_Space "grows_by" t.f_Space_grows_by
 F_is_word:Fun K "is_word" "is_word" st_is_word t.f_is_word t.d_is_word
 m_is_word:mg "is_word" = some (.ref t.f_is_word)
 F_handed_on:Fun K "handed_on" "handed_on" st_handed_on t.f_handed_on t.d_handed_on
 m_handed_on:mg "handed_on" = some (.ref t.f_handed_on)
 F_worth_of_held:Fun K "worth_of_held" "worth_of_held" st_worth_of_held t.f_worth_of_held t.d_worth_of_held
 m_worth_of_held:mg "worth_of_held" = some (.ref t.f_worth_of_held)
 F_worth_of:Fun K "worth_of" "worth_of" st_worth_of t.f_worth_of t.d_worth_of
 m_worth_of:mg "worth_of" = some (.ref t.f_worth_of)
 F_is_kind:Fun K "is_kind" "is_kind" st_is_kind t.f_is_kind t.d_is_kind
 m_is_kind:mg "is_kind" = some (.ref t.f_is_kind)
 F_states_made:Fun K "states_made" "states_made" st_states_made t.f_states_made t.d_states_made
 m_states_made:mg "states_made" = some (.ref t.f_states_made)
 F_side_by_side:Fun K "side_by_side" "side_by_side" st_side_by_side t.f_side_by_side t.d_side_by_side
 m_side_by_side:mg "side_by_side" = some (.ref t.f_side_by_side)
 F_added:Fun K "added" "added" st_added t.f_added t.d_added
 m_added:mg "added" = some (.ref t.f_added)
 F_products:Fun K "products" "products" st_products t.f_products t.d_products
 m_products:mg "products" = some (.ref t.f_products)
 F_products_of_rows:Fun K "products_of_rows" "products_of_rows" st_products_of_rows t.f_products_of_rows t.d_products_of_rows
 m_products_of_rows:mg "products_of_rows" = some (.ref t.f_products_of_rows)
 F_multiplied:Fun K "multiplied" "multiplied" st_multiplied t.f_multiplied t.d_multiplied
 m_multiplied:mg "multiplied" = some (.ref t.f_multiplied)
 F_bridge_between:Fun K "bridge_between" "bridge_between" st_bridge_between t.f_bridge_between t.d_bridge_between
 m_bridge_between:mg "bridge_between" = some (.ref t.f_bridge_between)
 F_one_behind_the_other:Fun K "one_behind_the_other" "one_behind_the_other" st_one_behind_the_other t.f_one_behind_the_other t.d_one_behind_the_other
 m_one_behind_the_other:mg "one_behind_the_other" = some (.ref t.f_one_behind_the_other)
 F_column:Fun K "column" "column" st_column t.f_column t.d_column
 m_column:mg "column" = some (.ref t.f_column)
 F_handed_back:Fun K "handed_back" "handed_back" st_handed_back t.f_handed_back t.d_handed_back
 m_handed_back:mg "handed_back" = some (.ref t.f_handed_back)
 F_turned:Fun K "turned" "turned" st_turned t.f_turned t.d_turned
 m_turned:mg "turned" = some (.ref t.f_turned)
 F_made_of_two:Fun K "made_of_two" "made_of_two" st_made_of_two t.f_made_of_two t.d_made_of_two
 m_made_of_two:mg "made_of_two" = some (.ref t.f_made_of_two)
 F_Reached_init:Fun K "__init__" "Reached.__init__" st_Reached_init t.f_Reached_init t.d_Reached_init
 F_Reached_look_at:Fun K "look_at" "Reached.look_at" st_Reached_look_at t.f_Reached_look_at t.d_Reached_look_at
 me_Reached_look_at:Meth K t.c_Reached "look_at" t.f_Reached_look_at
 F_Reached_go_on_from:Fun K "go_on_from" "Reached.go_on_from" st_Reached_go_on_from t.f_Reached_go_on_from t.d_Reached_go_on_from
 me_Reached_go_on_from:Meth K t.c_Reached "go_on_from" t.f_Reached_go_on_from
 F_space_reached:Fun K "space_reached" "space_reached" st_space_reached t.f_space_reached t.d_space_reached
 m_space_reached:mg "space_reached" = some (.ref t.f_space_reached)
 F_first_word_worth_something:Fun K "first_word_worth_something" "first_word_worth_something" st_first_word_worth_something t.f_first_word_worth_something t.d_first_word_worth_something
 m_first_word_worth_something:mg "first_word_worth_something" = some (.ref t.f_first_word_worth_something)
 F_negative:Fun K "negative" "negative" st_negative t.f_negative t.d_negative
 m_negative:mg "negative" = some (.ref t.f_negative)
 F_first_word_apart:Fun K "first_word_apart" "first_word_apart" st_first_word_apart t.f_first_word_apart t.d_first_word_apart
 m_first_word_apart:mg "first_word_apart" = some (.ref t.f_first_word_apart)
 F_handed_within:Fun K "handed_within" "handed_within" st_handed_within t.f_handed_within t.d_handed_within
 m_handed_within:mg "handed_within" = some (.ref t.f_handed_within)
 F_only_reached:Fun K "only_reached" "only_reached" st_only_reached t.f_only_reached t.d_only_reached
 m_only_reached:mg "only_reached" = some (.ref t.f_only_reached)
 F_fewest:Fun K "fewest" "fewest" st_fewest t.f_fewest t.d_fewest
 m_fewest:mg "fewest" = some (.ref t.f_fewest)
 F_Reader_init:Fun K "__init__" "Reader.__init__" st_Reader_init t.f_Reader_init t.d_Reader_init
 F_Reader_at_end:Fun K "at_end" "Reader.at_end" st_Reader_at_end t.f_Reader_at_end t.d_Reader_at_end
 me_Reader_at_end:Meth K t.c_Reader "at_end" t.f_Reader_at_end
 F_Reader_take:Fun K "take" "Reader.take" st_Reader_take t.f_Reader_take t.d_Reader_take
 me_Reader_take:Meth K t.c_Reader "take" t.f_Reader_take
 F_Reader_take_row:Fun K "take_row" "Reader.take_row" st_Reader_take_row t.f_Reader_take_row t.d_Reader_take_row
 me_Reader_take_row:Meth K t.c_Reader "take_row" t.f_Reader_take_row
 F_begin:Fun K "begin" "begin" st_begin t.f_begin t.d_begin
 m_begin:mg "begin" = some (.ref t.f_begin)
 F_new:Fun K "new" "new" st_new t.f_new t.d_new
 m_new:mg "new" = some (.ref t.f_new)
 F_machine_that_takes:Fun K "machine_that_takes" "machine_that_takes" st_machine_that_takes t.f_machine_that_takes t.d_machine_that_takes
 m_machine_that_takes:mg "machine_that_takes" = some (.ref t.f_machine_that_takes)
 F_first:Fun K "first" "first" st_first t.f_first t.d_first
 m_first:mg "first" = some (.ref t.f_first)
 F_last:Fun K "last" "last" st_last t.f_last t.d_last
 m_last:mg "last" = some (.ref t.f_last)
 F_hand:Fun K "hand" "hand" st_hand t.f_hand t.d_hand
 m_hand:mg "hand" = some (.ref t.f_hand)
 F_worth:Fun K "worth" "worth" st_worth t.f_worth t.d_worth
 m_worth:mg "worth" = some (.ref t.f_worth)
 F_are_comparable:Fun K "are_comparable" "are_comparable" st_are_comparable t.f_are_comparable t.d_are_comparable
 m_are_comparable:mg "are_comparable" = some (.ref t.f_are_comparable)
 F_make:Fun K "make" "make" st_make t.f_make t.d_make
 m_make:mg "make" = some (.ref t.f_make)
 F_most_letters_in:Fun K "most_letters_in" "most_letters_in" st_most_letters_in t.f_most_letters_in t.d_most_letters_in
 m_most_letters_in:mg "most_letters_in" = some (.ref t.f_most_letters_in)
 F_apart:Fun K "apart" "apart" st_apart t.f_apart t.d_apart
 m_apart:mg "apart" = some (.ref t.f_apart)
 F_least:Fun K "least" "least" st_least t.f_least t.d_least
 m_least:mg "least" = some (.ref t.f_least)
 F_answers_at:Fun K "answers_at" "answers_at" st_answers_at t.f_answers_at t.d_answers_at
 m_answers_at:mg "answers_at" = some (.ref t.f_answers_at)
 F_answers:Fun K "answers" "answers" st_answers t.f_answers t.d_answers
 m_answers:mg "answers" = some (.ref t.f_answers)
 m_PLACES:mg "PLACES" = some (.int (8) t.k_PLACES)
 m_P:mg "P" = some (.int (2147483647) t.k_P)
 m_MOST_NUMBERS:mg "MOST_NUMBERS" = some (.int (65536) t.k_MOST_NUMBERS)
 m_ADDED:mg "ADDED" = some (.int (0) t.k_ADDED)
 m_MULTIPLIED:mg "MULTIPLIED" = some (.int (1) t.k_MULTIPLIED)
 m_BEHIND:mg "BEHIND" = some (.int (2) t.k_BEHIND)
 m_TURNED:mg "TURNED" = some (.int (3) t.k_TURNED)
 m_MOST_STATES:mg "MOST_STATES" = some (.int (32) t.k_MOST_STATES)
 m_MOST_LETTERS:mg "MOST_LETTERS" = some (.int (4) t.k_MOST_LETTERS)
 m_MOST_ROOM:mg "MOST_ROOM" = some (.int (65536) t.k_MOST_ROOM)
 m_DONE:mg "DONE" = some (.int (0) t.k_DONE)
 m_REFUSED:mg "REFUSED" = some (.int (-1) t.k_REFUSED)
 m_TOO_MANY:mg "TOO_MANY" = some (.int (-2) t.k_TOO_MANY)
 m_THE_SAME:mg "THE_SAME" = some (.int (-3) t.k_THE_SAME)
 m_CALLS:mg "CALLS" = some (.ref t.k_CALLS)
 v_CALLS:∀ H,SqT K H t.k_CALLS [.ref t.f_begin,.ref t.f_new,.ref t.f_first,.ref t.f_last,.ref t.f_hand,.ref t.f_worth,.ref t.f_make,.ref t.f_apart,.ref t.f_least]
 b_len:mg "len" = none
 b_range:mg "range" = none
 b_zip:mg "zip" = none
 b_enumerate:mg "enumerate" = none
 b_list:mg "list" = none
 b_sum:mg "sum" = none
 b_all:mg "all" = none
noncomputable abbrev BD (n q:Str) (st:Stmt) (ps:List Str):Prop:=∀ (kV doc pm:Value) (an:Option Addr) (cdv ct:Value) (us:List Value),us.length = ps.length → bindArgs (PySem.W.fnOf n q (defArgs st) (defBody st) (defScope st) .none kV doc pm an cdv ct) ⟨us,[]⟩ = pure (ps.zip us)
theorem sc_is_place:FnScope ["slot"] ["slot"] (defScope st_is_place):=⟨rfl,rfl,rfl,by decide +kernel,rfl,by decide +kernel,by decide +kernel⟩
theorem b_is_place:BD "is_place" "is_place" st_is_place ["slot"]:=fun _ _ _ _ _ _ us hl=>match us,hl with | [_],_=>rfl
theorem sc_rows_of_zeros:FnScope ["height","width","row"] ["height","width"] (defScope st_rows_of_zeros):=⟨rfl,rfl,rfl,by decide +kernel,rfl,by decide +kernel,by decide +kernel⟩
theorem b_rows_of_zeros:BD "rows_of_zeros" "rows_of_zeros" st_rows_of_zeros ["height","width"]:=fun _ _ _ _ _ _ us hl=>match us,hl with | [_,_],_=>rfl
theorem sc_Machine_init:FnScope ["self","firsts","lasts","hands"] ["self","firsts","lasts","hands"] (defScope st_Machine_init):=⟨rfl,rfl,rfl,by decide +kernel,rfl,by decide +kernel,by decide +kernel⟩
theorem b_Machine_init:BD "__init__" "Machine.__init__" st_Machine_init ["self","firsts","lasts","hands"]:=fun _ _ _ _ _ _ us hl=>match us,hl with | [_,_,_,_],_=>rfl
theorem sc_Machine_has_state:FnScope ["self","i"] ["self","i"] (defScope st_Machine_has_state):=⟨rfl,rfl,rfl,by decide +kernel,rfl,by decide +kernel,by decide +kernel⟩
theorem b_Machine_has_state:BD "has_state" "Machine.has_state" st_Machine_has_state ["self","i"]:=fun _ _ _ _ _ _ us hl=>match us,hl with | [_,_],_=>rfl
theorem sc_Machine_has_letter:FnScope ["self","a"] ["self","a"] (defScope st_Machine_has_letter):=⟨rfl,rfl,rfl,by decide +kernel,rfl,by decide +kernel,by decide +kernel⟩
theorem b_Machine_has_letter:BD "has_letter" "Machine.has_letter" st_Machine_has_letter ["self","a"]:=fun _ _ _ _ _ _ us hl=>match us,hl with | [_,_],_=>rfl
theorem sc_machine_of_zeros:FnScope ["states","letters","hands","letter"] ["states","letters"] (defScope st_machine_of_zeros):=⟨rfl,rfl,rfl,by decide +kernel,rfl,by decide +kernel,by decide +kernel⟩
theorem b_machine_of_zeros:BD "machine_of_zeros" "machine_of_zeros" st_machine_of_zeros ["states","letters"]:=fun _ _ _ _ _ _ us hl=>match us,hl with | [_,_],_=>rfl
theorem sc_Places_init:FnScope ["self"] ["self"] (defScope st_Places_init):=⟨rfl,rfl,rfl,by decide +kernel,rfl,by decide +kernel,by decide +kernel⟩
theorem b_Places_init:BD "__init__" "Places.__init__" st_Places_init ["self"]:=fun _ _ _ _ _ _ us hl=>match us,hl with | [_],_=>rfl
theorem sc_Places_make_empty:FnScope ["self"] ["self"] (defScope st_Places_make_empty):=⟨rfl,rfl,rfl,by decide +kernel,rfl,by decide +kernel,by decide +kernel⟩
theorem b_Places_make_empty:BD "make_empty" "Places.make_empty" st_Places_make_empty ["self"]:=fun _ _ _ _ _ _ us hl=>match us,hl with | [_],_=>rfl
theorem sc_Places_machine_at:FnScope ["self","slot"] ["self","slot"] (defScope st_Places_machine_at):=⟨rfl,rfl,rfl,by decide +kernel,rfl,by decide +kernel,by decide +kernel⟩
theorem b_Places_machine_at:BD "machine_at" "Places.machine_at" st_Places_machine_at ["self","slot"]:=fun _ _ _ _ _ _ us hl=>match us,hl with | [_,_],_=>rfl
theorem sc_Places_put:FnScope ["self","slot","machine"] ["self","slot","machine"] (defScope st_Places_put):=⟨rfl,rfl,rfl,by decide +kernel,rfl,by decide +kernel,by decide +kernel⟩
theorem b_Places_put:BD "put" "Places.put" st_Places_put ["self","slot","machine"]:=fun _ _ _ _ _ _ us hl=>match us,hl with | [_,_,_],_=>rfl
theorem sc_is_number:FnScope ["x"] ["x"] (defScope st_is_number):=⟨rfl,rfl,rfl,by decide +kernel,rfl,by decide +kernel,by decide +kernel⟩
theorem b_is_number:BD "is_number" "is_number" st_is_number ["x"]:=fun _ _ _ _ _ _ us hl=>match us,hl with | [_],_=>rfl
theorem sc_inverse:FnScope ["x","power","square","exponent"] ["x"] (defScope st_inverse):=⟨rfl,rfl,rfl,by decide +kernel,rfl,by decide +kernel,by decide +kernel⟩
theorem b_inverse:BD "inverse" "inverse" st_inverse ["x"]:=fun _ _ _ _ _ _ us hl=>match us,hl with | [_],_=>rfl
theorem sc_multiple:FnScope ["x","row","y"] ["x","row"] (defScope st_multiple):=⟨rfl,rfl,rfl,by decide +kernel,rfl,by decide +kernel,by decide +kernel⟩
theorem b_multiple:BD "multiple" "multiple" st_multiple ["x","row"]:=fun _ _ _ _ _ _ us hl=>match us,hl with | [_,_],_=>rfl
theorem sc_difference:FnScope ["row","other","x","y"] ["row","other"] (defScope st_difference):=⟨rfl,rfl,rfl,by decide +kernel,rfl,by decide +kernel,by decide +kernel⟩
theorem b_difference:BD "difference" "difference" st_difference ["row","other"]:=fun _ _ _ _ _ _ us hl=>match us,hl with | [_,_],_=>rfl
theorem sc_sum_of_products:FnScope ["row","other","x","y"] ["row","other"] (defScope st_sum_of_products):=⟨rfl,rfl,rfl,by decide +kernel,rfl,by decide +kernel,by decide +kernel⟩
theorem b_sum_of_products:BD "sum_of_products" "sum_of_products" st_sum_of_products ["row","other"]:=fun _ _ _ _ _ _ us hl=>match us,hl with | [_,_],_=>rfl
theorem sc_sum_of_multiples:FnScope ["factors","rows","width","sums","x","row","y","z"] ["factors","rows","width"] (defScope st_sum_of_multiples):=⟨rfl,rfl,rfl,by decide +kernel,rfl,by decide +kernel,by decide +kernel⟩
theorem b_sum_of_multiples:BD "sum_of_multiples" "sum_of_multiples" st_sum_of_multiples ["factors","rows","width"]:=fun _ _ _ _ _ _ us hl=>match us,hl with | [_,_,_],_=>rfl
theorem sc_place_of_first_number:FnScope ["row","k","x"] ["row"] (defScope st_place_of_first_number):=⟨rfl,rfl,rfl,by decide +kernel,rfl,by decide +kernel,by decide +kernel⟩
theorem b_place_of_first_number:BD "place_of_first_number" "place_of_first_number" st_place_of_first_number ["row"]:=fun _ _ _ _ _ _ us hl=>match us,hl with | [_],_=>rfl
theorem sc_Space_init:FnScope ["self"] ["self"] (defScope st_Space_init):=⟨rfl,rfl,rfl,by decide +kernel,rfl,by decide +kernel,by decide +kernel⟩
theorem b_Space_init:BD "__init__" "Space.__init__" st_Space_init ["self"]:=fun _ _ _ _ _ _ us hl=>match us,hl with | [_],_=>rfl
theorem sc_Space_factors:FnScope ["self","row","pivot"] ["self","row"] (defScope st_Space_factors):=⟨rfl,rfl,rfl,by decide +kernel,rfl,by decide +kernel,by decide +kernel⟩
theorem b_Space_factors:BD "factors" "Space.factors" st_Space_factors ["self","row"]:=fun _ _ _ _ _ _ us hl=>match us,hl with | [_,_],_=>rfl
theorem sc_Space_rest:FnScope ["self","row"] ["self","row"] (defScope st_Space_rest):=⟨rfl,rfl,rfl,by decide +kernel,rfl,by decide +kernel,by decide +kernel⟩
theorem b_Space_rest:BD "rest" "Space.rest" st_Space_rest ["self","row"]:=fun _ _ _ _ _ _ us hl=>match us,hl with | [_,_],_=>rfl
theorem sc_Space_grows_by:FnScope ["self","row","rest","pivot","fresh","own"] ["self","row"] (defScope st_Space_grows_by):=⟨rfl,rfl,rfl,by decide +kernel,rfl,by decide +kernel,by decide +kernel⟩
theorem b_Space_grows_by:BD "grows_by" "Space.grows_by" st_Space_grows_by ["self","row"]:=fun _ _ _ _ _ _ us hl=>match us,hl with | [_,_],_=>rfl
theorem sc_is_word:FnScope ["machine","word","a"] ["machine","word"] (defScope st_is_word):=⟨rfl,rfl,rfl,by decide +kernel,rfl,by decide +kernel,by decide +kernel⟩
theorem b_is_word:BD "is_word" "is_word" st_is_word ["machine","word"]:=fun _ _ _ _ _ _ us hl=>match us,hl with | [_,_],_=>rfl
theorem sc_handed_on:FnScope ["machine","held","a"] ["machine","held","a"] (defScope st_handed_on):=⟨rfl,rfl,rfl,by decide +kernel,rfl,by decide +kernel,by decide +kernel⟩
theorem b_handed_on:BD "handed_on" "handed_on" st_handed_on ["machine","held","a"]:=fun _ _ _ _ _ _ us hl=>match us,hl with | [_,_,_],_=>rfl
theorem sc_worth_of_held:FnScope ["machine","held"] ["machine","held"] (defScope st_worth_of_held):=⟨rfl,rfl,rfl,by decide +kernel,rfl,by decide +kernel,by decide +kernel⟩
theorem b_worth_of_held:BD "worth_of_held" "worth_of_held" st_worth_of_held ["machine","held"]:=fun _ _ _ _ _ _ us hl=>match us,hl with | [_,_],_=>rfl
theorem sc_worth_of:FnScope ["machine","word","held","a"] ["machine","word"] (defScope st_worth_of):=⟨rfl,rfl,rfl,by decide +kernel,rfl,by decide +kernel,by decide +kernel⟩
theorem b_worth_of:BD "worth_of" "worth_of" st_worth_of ["machine","word"]:=fun _ _ _ _ _ _ us hl=>match us,hl with | [_,_],_=>rfl
theorem sc_is_kind:FnScope ["kind"] ["kind"] (defScope st_is_kind):=⟨rfl,rfl,rfl,by decide +kernel,rfl,by decide +kernel,by decide +kernel⟩
theorem b_is_kind:BD "is_kind" "is_kind" st_is_kind ["kind"]:=fun _ _ _ _ _ _ us hl=>match us,hl with | [_],_=>rfl
theorem sc_states_made:FnScope ["kind","one","other"] ["kind","one","other"] (defScope st_states_made):=⟨rfl,rfl,rfl,by decide +kernel,rfl,by decide +kernel,by decide +kernel⟩
theorem b_states_made:BD "states_made" "states_made" st_states_made ["kind","one","other"]:=fun _ _ _ _ _ _ us hl=>match us,hl with | [_,_,_],_=>rfl
theorem sc_side_by_side:FnScope ["square","bridge","other","upper","lower","row","across"] ["square","bridge","other"] (defScope st_side_by_side):=⟨rfl,rfl,rfl,by decide +kernel,rfl,by decide +kernel,by decide +kernel⟩
theorem b_side_by_side:BD "side_by_side" "side_by_side" st_side_by_side ["square","bridge","other"]:=fun _ _ _ _ _ _ us hl=>match us,hl with | [_,_,_],_=>rfl
theorem sc_added:FnScope ["one","other","nothing","hands","square","its"] ["one","other"] (defScope st_added):=⟨rfl,rfl,rfl,by decide +kernel,rfl,by decide +kernel,by decide +kernel⟩
theorem b_added:BD "added" "added" st_added ["one","other"]:=fun _ _ _ _ _ _ us hl=>match us,hl with | [_,_],_=>rfl
theorem sc_products:FnScope ["row","other","multiplied_row","x"] ["row","other"] (defScope st_products):=⟨rfl,rfl,rfl,by decide +kernel,rfl,by decide +kernel,by decide +kernel⟩
theorem b_products:BD "products" "products" st_products ["row","other"]:=fun _ _ _ _ _ _ us hl=>match us,hl with | [_,_],_=>rfl
theorem sc_products_of_rows:FnScope ["rows","others","multiplied_rows","row","other"] ["rows","others"] (defScope st_products_of_rows):=⟨rfl,rfl,rfl,by decide +kernel,rfl,by decide +kernel,by decide +kernel⟩
theorem b_products_of_rows:BD "products_of_rows" "products_of_rows" st_products_of_rows ["rows","others"]:=fun _ _ _ _ _ _ us hl=>match us,hl with | [_,_],_=>rfl
theorem sc_multiplied:FnScope ["one","other","hands","square","its"] ["one","other"] (defScope st_multiplied):=⟨rfl,rfl,rfl,by decide +kernel,rfl,by decide +kernel,by decide +kernel⟩
theorem b_multiplied:BD "multiplied" "multiplied" st_multiplied ["one","other"]:=fun _ _ _ _ _ _ us hl=>match us,hl with | [_,_],_=>rfl
theorem sc_bridge_between:FnScope ["one","square","other","ends","row","x"] ["one","square","other"] (defScope st_bridge_between):=⟨rfl,rfl,rfl,by decide +kernel,rfl,by decide +kernel,by decide +kernel⟩
theorem b_bridge_between:BD "bridge_between" "bridge_between" st_bridge_between ["one","square","other"]:=fun _ _ _ _ _ _ us hl=>match us,hl with | [_,_,_],_=>rfl
theorem sc_one_behind_the_other:FnScope ["one","other","firsts","lasts","hands","square","its"] ["one","other"] (defScope st_one_behind_the_other):=⟨rfl,rfl,rfl,by decide +kernel,rfl,by decide +kernel,by decide +kernel⟩
theorem b_one_behind_the_other:BD "one_behind_the_other" "one_behind_the_other" st_one_behind_the_other ["one","other"]:=fun _ _ _ _ _ _ us hl=>match us,hl with | [_,_],_=>rfl
theorem sc_column:FnScope ["square","j","row"] ["square","j"] (defScope st_column):=⟨rfl,rfl,rfl,by decide +kernel,rfl,by decide +kernel,by decide +kernel⟩
theorem b_column:BD "column" "column" st_column ["square","j"]:=fun _ _ _ _ _ _ us hl=>match us,hl with | [_,_],_=>rfl
theorem sc_handed_back:FnScope ["square","j"] ["square"] (defScope st_handed_back):=⟨rfl,rfl,rfl,by decide +kernel,rfl,by decide +kernel,by decide +kernel⟩
theorem b_handed_back:BD "handed_back" "handed_back" st_handed_back ["square"]:=fun _ _ _ _ _ _ us hl=>match us,hl with | [_],_=>rfl
theorem sc_turned:FnScope ["machine","hands","square"] ["machine"] (defScope st_turned):=⟨rfl,rfl,rfl,by decide +kernel,rfl,by decide +kernel,by decide +kernel⟩
theorem b_turned:BD "turned" "turned" st_turned ["machine"]:=fun _ _ _ _ _ _ us hl=>match us,hl with | [_],_=>rfl
theorem sc_made_of_two:FnScope ["kind","one","other"] ["kind","one","other"] (defScope st_made_of_two):=⟨rfl,rfl,rfl,by decide +kernel,rfl,by decide +kernel,by decide +kernel⟩
theorem b_made_of_two:BD "made_of_two" "made_of_two" st_made_of_two ["kind","one","other"]:=fun _ _ _ _ _ _ us hl=>match us,hl with | [_,_,_],_=>rfl
theorem sc_Reached_init:FnScope ["self","machine"] ["self","machine"] (defScope st_Reached_init):=⟨rfl,rfl,rfl,by decide +kernel,rfl,by decide +kernel,by decide +kernel⟩
theorem b_Reached_init:BD "__init__" "Reached.__init__" st_Reached_init ["self","machine"]:=fun _ _ _ _ _ _ us hl=>match us,hl with | [_,_],_=>rfl
theorem sc_Reached_look_at:FnScope ["self","word","held"] ["self","word","held"] (defScope st_Reached_look_at):=⟨rfl,rfl,rfl,by decide +kernel,rfl,by decide +kernel,by decide +kernel⟩
theorem b_Reached_look_at:BD "look_at" "Reached.look_at" st_Reached_look_at ["self","word","held"]:=fun _ _ _ _ _ _ us hl=>match us,hl with | [_,_,_],_=>rfl
theorem sc_Reached_go_on_from:FnScope ["self","k","a"] ["self","k"] (defScope st_Reached_go_on_from):=⟨rfl,rfl,rfl,by decide +kernel,rfl,by decide +kernel,by decide +kernel⟩
theorem b_Reached_go_on_from:BD "go_on_from" "Reached.go_on_from" st_Reached_go_on_from ["self","k"]:=fun _ _ _ _ _ _ us hl=>match us,hl with | [_,_],_=>rfl
theorem sc_space_reached:FnScope ["machine","reached","k"] ["machine"] (defScope st_space_reached):=⟨rfl,rfl,rfl,by decide +kernel,rfl,by decide +kernel,by decide +kernel⟩
theorem b_space_reached:BD "space_reached" "space_reached" st_space_reached ["machine"]:=fun _ _ _ _ _ _ us hl=>match us,hl with | [_],_=>rfl
theorem sc_first_word_worth_something:FnScope ["machine","reached","k"] ["machine"] (defScope st_first_word_worth_something):=⟨rfl,rfl,rfl,by decide +kernel,rfl,by decide +kernel,by decide +kernel⟩
theorem b_first_word_worth_something:BD "first_word_worth_something" "first_word_worth_something" st_first_word_worth_something ["machine"]:=fun _ _ _ _ _ _ us hl=>match us,hl with | [_],_=>rfl
theorem sc_negative:FnScope ["machine"] ["machine"] (defScope st_negative):=⟨rfl,rfl,rfl,by decide +kernel,rfl,by decide +kernel,by decide +kernel⟩
theorem b_negative:BD "negative" "negative" st_negative ["machine"]:=fun _ _ _ _ _ _ us hl=>match us,hl with | [_],_=>rfl
theorem sc_first_word_apart:FnScope ["one","other"] ["one","other"] (defScope st_first_word_apart):=⟨rfl,rfl,rfl,by decide +kernel,rfl,by decide +kernel,by decide +kernel⟩
theorem b_first_word_apart:BD "first_word_apart" "first_word_apart" st_first_word_apart ["one","other"]:=fun _ _ _ _ _ _ us hl=>match us,hl with | [_,_],_=>rfl
theorem sc_handed_within:FnScope ["machine","space","a","row"] ["machine","space","a"] (defScope st_handed_within):=⟨rfl,rfl,rfl,by decide +kernel,rfl,by decide +kernel,by decide +kernel⟩
theorem b_handed_within:BD "handed_within" "handed_within" st_handed_within ["machine","space","a"]:=fun _ _ _ _ _ _ us hl=>match us,hl with | [_,_,_],_=>rfl
theorem sc_only_reached:FnScope ["machine","space","lasts","hands","row","a"] ["machine"] (defScope st_only_reached):=⟨rfl,rfl,rfl,by decide +kernel,rfl,by decide +kernel,by decide +kernel⟩
theorem b_only_reached:BD "only_reached" "only_reached" st_only_reached ["machine"]:=fun _ _ _ _ _ _ us hl=>match us,hl with | [_],_=>rfl
theorem sc_fewest:FnScope ["machine"] ["machine"] (defScope st_fewest):=⟨rfl,rfl,rfl,by decide +kernel,rfl,by decide +kernel,by decide +kernel⟩
theorem b_fewest:BD "fewest" "fewest" st_fewest ["machine"]:=fun _ _ _ _ _ _ us hl=>match us,hl with | [_],_=>rfl
theorem sc_Reader_init:FnScope ["self","calls"] ["self","calls"] (defScope st_Reader_init):=⟨rfl,rfl,rfl,by decide +kernel,rfl,by decide +kernel,by decide +kernel⟩
theorem b_Reader_init:BD "__init__" "Reader.__init__" st_Reader_init ["self","calls"]:=fun _ _ _ _ _ _ us hl=>match us,hl with | [_,_],_=>rfl
theorem sc_Reader_at_end:FnScope ["self"] ["self"] (defScope st_Reader_at_end):=⟨rfl,rfl,rfl,by decide +kernel,rfl,by decide +kernel,by decide +kernel⟩
theorem b_Reader_at_end:BD "at_end" "Reader.at_end" st_Reader_at_end ["self"]:=fun _ _ _ _ _ _ us hl=>match us,hl with | [_],_=>rfl
theorem sc_Reader_take:FnScope ["self","number"] ["self"] (defScope st_Reader_take):=⟨rfl,rfl,rfl,by decide +kernel,rfl,by decide +kernel,by decide +kernel⟩
theorem b_Reader_take:BD "take" "Reader.take" st_Reader_take ["self"]:=fun _ _ _ _ _ _ us hl=>match us,hl with | [_],_=>rfl
theorem sc_Reader_take_row:FnScope ["self","length","row"] ["self"] (defScope st_Reader_take_row):=⟨rfl,rfl,rfl,by decide +kernel,rfl,by decide +kernel,by decide +kernel⟩
theorem b_Reader_take_row:BD "take_row" "Reader.take_row" st_Reader_take_row ["self"]:=fun _ _ _ _ _ _ us hl=>match us,hl with | [_],_=>rfl
theorem sc_begin:FnScope ["places","reader"] ["places","reader"] (defScope st_begin):=⟨rfl,rfl,rfl,by decide +kernel,rfl,by decide +kernel,by decide +kernel⟩
theorem b_begin:BD "begin" "begin" st_begin ["places","reader"]:=fun _ _ _ _ _ _ us hl=>match us,hl with | [_,_],_=>rfl
theorem sc_new:FnScope ["places","reader","slot","states","letters"] ["places","reader"] (defScope st_new):=⟨rfl,rfl,rfl,by decide +kernel,rfl,by decide +kernel,by decide +kernel⟩
theorem b_new:BD "new" "new" st_new ["places","reader"]:=fun _ _ _ _ _ _ us hl=>match us,hl with | [_,_],_=>rfl
theorem sc_machine_that_takes:FnScope ["places","slot","i","x","machine"] ["places","slot","i","x"] (defScope st_machine_that_takes):=⟨rfl,rfl,rfl,by decide +kernel,rfl,by decide +kernel,by decide +kernel⟩
theorem b_machine_that_takes:BD "machine_that_takes" "machine_that_takes" st_machine_that_takes ["places","slot","i","x"]:=fun _ _ _ _ _ _ us hl=>match us,hl with | [_,_,_,_],_=>rfl
theorem sc_first:FnScope ["places","reader","slot","i","x","machine"] ["places","reader"] (defScope st_first):=⟨rfl,rfl,rfl,by decide +kernel,rfl,by decide +kernel,by decide +kernel⟩
theorem b_first:BD "first" "first" st_first ["places","reader"]:=fun _ _ _ _ _ _ us hl=>match us,hl with | [_,_],_=>rfl
theorem sc_last:FnScope ["places","reader","slot","i","x","machine"] ["places","reader"] (defScope st_last):=⟨rfl,rfl,rfl,by decide +kernel,rfl,by decide +kernel,by decide +kernel⟩
theorem b_last:BD "last" "last" st_last ["places","reader"]:=fun _ _ _ _ _ _ us hl=>match us,hl with | [_,_],_=>rfl
theorem sc_hand:FnScope ["places","reader","slot","a","i","j","x","machine"] ["places","reader"] (defScope st_hand):=⟨rfl,rfl,rfl,by decide +kernel,rfl,by decide +kernel,by decide +kernel⟩
theorem b_hand:BD "hand" "hand" st_hand ["places","reader"]:=fun _ _ _ _ _ _ us hl=>match us,hl with | [_,_],_=>rfl
theorem sc_worth:FnScope ["places","reader","slot","word","machine"] ["places","reader"] (defScope st_worth):=⟨rfl,rfl,rfl,by decide +kernel,rfl,by decide +kernel,by decide +kernel⟩
theorem b_worth:BD "worth" "worth" st_worth ["places","reader"]:=fun _ _ _ _ _ _ us hl=>match us,hl with | [_,_],_=>rfl
theorem sc_are_comparable:FnScope ["one","other"] ["one","other"] (defScope st_are_comparable):=⟨rfl,rfl,rfl,by decide +kernel,rfl,by decide +kernel,by decide +kernel⟩
theorem b_are_comparable:BD "are_comparable" "are_comparable" st_are_comparable ["one","other"]:=fun _ _ _ _ _ _ us hl=>match us,hl with | [_,_],_=>rfl
theorem sc_make:FnScope ["places","reader","kind","one","other","slot","machine"] ["places","reader"] (defScope st_make):=⟨rfl,rfl,rfl,by decide +kernel,rfl,by decide +kernel,by decide +kernel⟩
theorem b_make:BD "make" "make" st_make ["places","reader"]:=fun _ _ _ _ _ _ us hl=>match us,hl with | [_,_],_=>rfl
theorem sc_most_letters_in:FnScope ["room"] ["room"] (defScope st_most_letters_in):=⟨rfl,rfl,rfl,by decide +kernel,rfl,by decide +kernel,by decide +kernel⟩
theorem b_most_letters_in:BD "most_letters_in" "most_letters_in" st_most_letters_in ["room"]:=fun _ _ _ _ _ _ us hl=>match us,hl with | [_],_=>rfl
theorem sc_apart:FnScope ["places","reader","one","other","room","word"] ["places","reader"] (defScope st_apart):=⟨rfl,rfl,rfl,by decide +kernel,rfl,by decide +kernel,by decide +kernel⟩
theorem b_apart:BD "apart" "apart" st_apart ["places","reader"]:=fun _ _ _ _ _ _ us hl=>match us,hl with | [_,_],_=>rfl
theorem sc_least:FnScope ["places","reader","machine","slot","smallest"] ["places","reader"] (defScope st_least):=⟨rfl,rfl,rfl,by decide +kernel,rfl,by decide +kernel,by decide +kernel⟩
theorem b_least:BD "least" "least" st_least ["places","reader"]:=fun _ _ _ _ _ _ us hl=>match us,hl with | [_,_],_=>rfl
theorem sc_answers_at:FnScope ["places","calls","reader","answered","call","answer"] ["places","calls"] (defScope st_answers_at):=⟨rfl,rfl,rfl,by decide +kernel,rfl,by decide +kernel,by decide +kernel⟩
theorem b_answers_at:BD "answers_at" "answers_at" st_answers_at ["places","calls"]:=fun _ _ _ _ _ _ us hl=>match us,hl with | [_,_],_=>rfl
theorem sc_answers:FnScope ["calls"] ["calls"] (defScope st_answers):=⟨rfl,rfl,rfl,by decide +kernel,rfl,by decide +kernel,by decide +kernel⟩
theorem b_answers:BD "answers" "answers" st_answers ["calls"]:=fun _ _ _ _ _ _ us hl=>match us,hl with | [_],_=>rfl
end Wp
namespace Wp
open PySem PySem.Spec PyProof.Rows L2
open PySem.W (Codec)
section
variable {P:Program} {w:World} {K:PySem.W.Frag} {mg:Str → Option Value} {base:Heap} {t:Adr}
noncomputable def sp_is_number:Sp:=fun vs H Q _=>∃ x:Int,vs = [.int x] ∧ Q (.bl (decide (0 ≤ x ∧ x < 2147483647))) H
theorem ok_is_number (T:Txt K mg t):FnOk P w K mg base CX0 1 t.f_is_number t.d_is_number ["x"] sp_is_number:=by
 refine T.F_is_number.ok sc_is_number (fun vs H Q E h=>?_) (fun cdv A outer s H vs Q E hr h=>?_)
 ·obtain ⟨x,rfl,_⟩:=h
  rfl
 ·obtain ⟨x,rfl,k⟩:=h
  refine ⟨_,(pss_one (ps_ret (pe_chain op_le op_lt pe_int (pv 0) (pe_glob (v:=.int 2147483647) rfl T.m_P ⟨_,rfl⟩)))),?_⟩
  refine ⟨_,rfl,_,_,rfl,rfl,_,rfl,?_⟩
  by_cases h0:0 ≤ x
  ·rw [if_pos (decide_eq_true h0)]
   refine ⟨_,_,rfl,rfl,?_⟩
   have e:decide (x < 2147483647) = decide (0 ≤ x ∧ x < 2147483647):=by simp [h0]
   show Q (V.bl (decide (x < 2147483647))) H
   rw [e]
   exact k
  ·rw [if_neg (by simp [h0])]
   have e:false = decide (0 ≤ x ∧ x < 2147483647):=by simp [h0]
   show Q (V.bl false) H
   rw [e]
   exact k
noncomputable def sp_is_place:Sp:=fun vs H Q _=>∃ x:Int,vs = [.int x] ∧ Q (.bl (decide (0 ≤ x ∧ x < 8))) H
theorem ok_is_place (T:Txt K mg t):FnOk P w K mg base CX0 1 t.f_is_place t.d_is_place ["slot"] sp_is_place:=by
 refine T.F_is_place.ok sc_is_place (fun vs H Q E h=>?_) (fun cdv A outer s H vs Q E hr h=>?_)
 ·obtain ⟨x,rfl,_⟩:=h
  rfl
 ·obtain ⟨x,rfl,k⟩:=h
  refine ⟨_,(pss_one (ps_ret (pe_chain op_le op_lt pe_int (pv 0) (pe_glob (v:=.int 8) rfl T.m_PLACES ⟨_,rfl⟩)))),?_⟩
  refine ⟨_,rfl,_,_,rfl,rfl,_,rfl,?_⟩
  by_cases h0:0 ≤ x
  ·rw [if_pos (decide_eq_true h0)]
   refine ⟨_,_,rfl,rfl,?_⟩
   have e:decide (x < 8) = decide (0 ≤ x ∧ x < 8):=by simp [h0]
   show Q (V.bl (decide (x < 8))) H
   rw [e]
   exact k
  ·rw [if_neg (by simp [h0])]
   have e:false = decide (0 ≤ x ∧ x < 8):=by simp [h0]
   show Q (V.bl false) H
   rw [e]
   exact k
noncomputable def rF (a:Addr) (p:Int):List (Str × V):=putF "position" (.int p) (putF "calls" (.ref a) [])
theorem rF_pos (a:Addr) (p:Int):(rF a p).lookup ("position":Str) = some (.int p):=look_same ..
theorem rF_calls (a:Addr) (p:Int):(rF a p).lookup ("calls":Str) = some (.ref a):=by
 unfold rF
 rw [look_ne _ _ (by decide +kernel),look_same]
theorem rF_no (a:Addr) (p:Int) {m:Str} (h1:¬ m = "position") (h2:¬ m = "calls"):(rF a p).lookup m = none:=by
 unfold rF
 rw [look_ne _ _ h1,look_ne _ _ h2]
 rfl
theorem rF_put (a:Addr) (p q:Int):putF "position" (.int q) (rF a p) = rF a q:=putF_putF ..
noncomputable def SqF (K:PySem.W.Frag) (H:Hp) (a:Addr) (xs:List V):Prop :=
 (∃ o,H a = some (.frz o (.lst xs))) ∨
  ∃ (o:Obj) (its:Array Value) (n:Nat),K.lookup a = some o ∧ o.cls = .type "list" ∧ o.dict = none ∧ o.data = .seq its n ∧ its.size ≤ sizeLine ∧ Vals xs its.toList
theorem SqF.sql {K:PySem.W.Frag} {H:Hp} {a:Addr} {xs:List V} (h:SqF K H a xs):SqL K H a xs:=by
 rcases h with ⟨o,h⟩ | h
 ·exact .inl (.inr ⟨o,h⟩)
 ·exact .inr h
theorem SqF.frame {K:PySem.W.Frag} {H H':Hp} {a:Addr} {xs:List V} (h:SqF K H a xs) (k:∀ b o u,H b = some (.frz o u) → H' b = some (.frz o u)):SqF K H' a xs:=by
 rcases h with ⟨o,h⟩ | h
 ·exact .inl ⟨o,k _ _ _ h⟩
 ·exact .inr h
structure ReaderAt (K:PySem.W.Frag) (C:Addr) (H:Hp) (rd a:Addr) (ns:List Int) (p:Nat):Prop where
 ins:∃ dx,H rd = some (.ins C dx (rF a p))
 seq:SqF K H a (ns.map V.int)
 le:p ≤ ns.length
 few:ns.length ≤ 13000
noncomputable def sp_Reader_init (K:PySem.W.Frag) (t:Adr):Sp:=fun vs H Q _=>∃ (r dx a:Addr),vs = [.ref r,.ref a] ∧ H r = some (.ins t.c_Reader dx []) ∧ ∀ H',H' = upd H r (.ins t.c_Reader dx (rF a 0)) → Q .non H'
theorem ok_Reader_init (T:Txt K mg t):FnOk P w K mg base CX0 1 t.f_Reader_init t.d_Reader_init ["self","calls"] (sp_Reader_init K t):=by
 refine T.F_Reader_init.ok sc_Reader_init (fun vs H Q E h=>?_) (fun cdv A outer s H vs Q E hr h=>?_)
 ·obtain ⟨r,dx,a,rfl,_⟩:=h
  rfl
 ·obtain ⟨r,dx,a,rfl,h1,k⟩:=h
  refine ⟨_,(pss_cons (ps_fld (pv 0) (pv 1) rfl)
   (pss_one (ps_fld (pv 0) pe_int rfl))),?_⟩
  refine ⟨_,rfl,_,rfl,r,t.c_Reader,dx,_,rfl,h1,T.cl_Reader,T.na_Reader_calls,(by show 0 < 1000; decide),?_⟩
  refine ⟨_,rfl,r,t.c_Reader,dx,_,rfl,upd_same,T.cl_Reader,T.na_Reader_position,(by show 1 < 1000; decide),?_⟩
  refine k _ ?_
  rw [upd_upd]
  rfl
noncomputable def sp_Reader_at_end (K:PySem.W.Frag) (t:Adr):Sp:=fun vs H Q _=>∃ (r a:Addr) (ns:List Int) (p:Nat),vs = [.ref r] ∧ ReaderAt K t.c_Reader H r a ns p ∧ Q (.bl (decide (p = ns.length))) H
theorem ok_Reader_at_end (T:Txt K mg t):FnOk P w K mg base CX0 1 t.f_Reader_at_end t.d_Reader_at_end ["self"] (sp_Reader_at_end K t):=by
 refine T.F_Reader_at_end.ok sc_Reader_at_end (fun vs H Q E h=>?_) (fun cdv A outer s H vs Q E hr h=>?_)
 ·obtain ⟨r,a,ns,p,rfl,_⟩:=h
  rfl
 ·obtain ⟨r,a,ns,p,rfl,⟨⟨dx,h1⟩,h2,h3,h4⟩,k⟩:=h
  refine ⟨_,(pss_one (ps_ret (pe_cmpR op_eq (pe_fld (pv 0) rfl) (pe_callB call_len_seq (by rfl) T.b_len PySem.boot_len (pa_cons (pe_fld (pv 0) rfl) pa_nil)) (nomark _)))),?_⟩
  refine ⟨_,rfl,r,_,dx,_,_,rfl,h1,T.cl_Reader,T.na_Reader_position,rF_pos _ _,?_⟩
  refine ⟨_,rfl,r,_,dx,_,_,rfl,h1,T.cl_Reader,T.na_Reader_calls,rF_calls _ _,a,_,rfl,.inl h2.sql,?_⟩
  refine ⟨rfl,?_⟩
  have e:decide ((V.int (p:Int)) = V.int ((ns.map V.int).length:Int)) = decide (p = ns.length):=by
   rw [List.length_map]
   by_cases h:p = ns.length
   ·subst h; simp
   ·have:¬ (V.int (p:Int)) = V.int (ns.length:Int):=fun z=>h (by have:=V.int.inj z; omega)
    simp [h,this]
  rw [e]
  exact k
noncomputable def sp_Reader_take (K:PySem.W.Frag) (t:Adr):Sp:=fun vs H Q _=>∃ (r a:Addr) (ns:List Int) (p:Nat) (x:Int),vs = [.ref r] ∧ ReaderAt K t.c_Reader H r a ns p ∧ ns[p]? = some x ∧
 ∀ H',ReaderAt K t.c_Reader H' r a ns (p + 1) → (∀ b,b ≠ r → H' b = H b) → Q (.int x) H'
theorem ok_Reader_take (T:Txt K mg t):FnOk P w K mg base CX0 1 t.f_Reader_take t.d_Reader_take ["self"] (sp_Reader_take K t):=by
 refine T.F_Reader_take.ok sc_Reader_take (fun vs H Q E h=>?_) (fun cdv A outer s H vs Q E hr h=>?_)
 ·obtain ⟨r,a,ns,p,x,rfl,_⟩:=h
  rfl
 ·obtain ⟨r,a,ns,p,x,rfl,⟨⟨dx,h1⟩,h2,h3,h4⟩,hx,k⟩:=h
  refine ⟨_,(pss_cons (ps_set (i:=1) sc_Reader_take.nd rfl (Or.inl rfl) (pe_ix ix_list (pe_fld (pv 0) rfl) (pe_fld (pv 0) rfl) (fun _ _=>rfl)))
   (pss_cons (ps_fldaug (pv 0) pe_int in_add)
   (pss_one (ps_ret (pv 1))))),?_⟩
  refine ⟨_,rfl,r,_,dx,_,_,rfl,h1,T.cl_Reader,T.na_Reader_calls,rF_calls _ _,?_⟩
  refine ⟨_,rfl,r,_,dx,_,_,rfl,h1,T.cl_Reader,T.na_Reader_position,rF_pos _ _,a,_,_,_,rfl,rfl,h2.sql,at_of (j:=p) (v:=V.int x) rfl (by rw [List.getElem?_map,hx]; rfl),?_⟩
  refine ⟨_,rfl,r,_,dx,_,_,rfl,h1,T.cl_Reader,T.na_Reader_position,rF_pos _ _,_,_,rfl,rfl,dx,_,h1,(by show 2 < 1000; decide),?_⟩
  refine ⟨_,rfl,?_⟩
  have e:putF "position" (V.int ((p:Int) + 1)) (rF a p) = rF a ((p + 1:Nat):Int):=rF_put _ _ _
  refine k _ ⟨⟨dx,?_⟩,?_,?_,h4⟩ fun b hb=>upd_ne hb
  ·rw [upd_same]
   exact congrArg (fun q=>some (HO.ins t.c_Reader dx q)) e
  ·exact h2.frame fun b o u e=>by
    rw [upd_ne (ne_of e h1 (by intro z; cases z))]
    exact e
  ·have:=(List.getElem?_eq_some_iff.mp hx).1
   omega
noncomputable def sp_has (C:Addr) (g:Wm.PM → Nat):Sp:=fun vs H Q _=>∃ (a:Addr) (m:Wm.PM) (S:List Addr) (i:Int),vs = [.ref a,.int i] ∧ Mach C H a m S ∧ Q (.bl (decide (0 ≤ i ∧ i < (g m:Int)))) H
theorem ok_Machine_has_state (T:Txt K mg t):FnOk P w K mg base CX0 1 t.f_Machine_has_state t.d_Machine_has_state ["self","i"] (sp_has t.c_Machine fun m=>m.n):=by
 refine T.F_Machine_has_state.ok sc_Machine_has_state (fun vs H Q E h=>?_) (fun cdv A outer s H vs Q E hr h=>?_)
 ·obtain ⟨a,m,S,i,rfl,_⟩:=h
  rfl
 ·obtain ⟨a,m,S,i,rfl,⟨dx,lf,ll,lh,ps,M,_⟩,k⟩:=h
  refine ⟨_,(pss_one (ps_ret (pe_chain op_le op_lt pe_int (pv 1) (pe_fld (pv 0) rfl)))),?_⟩
  refine ⟨_,rfl,_,_,rfl,rfl,_,rfl,?_⟩
  by_cases h0:0 ≤ i
  ·rw [if_pos (decide_eq_true h0)]
   refine ⟨_,rfl,a,_,dx,_,_,rfl,M.ins,T.cl_Machine,T.na_Machine_states,mF_states ..,_,_,rfl,rfl,?_⟩
   have e:decide (i < (m.n:Int)) = decide (0 ≤ i ∧ i < (m.n:Int)):=by simp [h0]
   show Q (V.bl (decide (i < (m.n:Int)))) H
   rw [e]
   exact k
  ·rw [if_neg (by simp [h0])]
   have e:false = decide (0 ≤ i ∧ i < (m.n:Int)):=by simp [h0]
   show Q (V.bl false) H
   rw [e]
   exact k
theorem ok_Machine_has_letter (T:Txt K mg t):FnOk P w K mg base CX0 1 t.f_Machine_has_letter t.d_Machine_has_letter ["self","a"] (sp_has t.c_Machine fun m=>m.k):=by
 refine T.F_Machine_has_letter.ok sc_Machine_has_letter (fun vs H Q E h=>?_) (fun cdv A outer s H vs Q E hr h=>?_)
 ·obtain ⟨a,m,S,i,rfl,_⟩:=h
  rfl
 ·obtain ⟨a,m,S,i,rfl,⟨dx,lf,ll,lh,ps,M,_⟩,k⟩:=h
  refine ⟨_,(pss_one (ps_ret (pe_chain op_le op_lt pe_int (pv 1) (pe_fld (pv 0) rfl)))),?_⟩
  refine ⟨_,rfl,_,_,rfl,rfl,_,rfl,?_⟩
  by_cases h0:0 ≤ i
  ·rw [if_pos (decide_eq_true h0)]
   refine ⟨_,rfl,a,_,dx,_,_,rfl,M.ins,T.cl_Machine,T.na_Machine_letters,mF_letters ..,_,_,rfl,rfl,?_⟩
   have e:decide (i < (m.k:Int)) = decide (0 ≤ i ∧ i < (m.k:Int)):=by simp [h0]
   show Q (V.bl (decide (i < (m.k:Int)))) H
   rw [e]
   exact k
  ·rw [if_neg (by simp [h0])]
   have e:false = decide (0 ≤ i ∧ i < (m.k:Int)):=by simp [h0]
   show Q (V.bl false) H
   rw [e]
   exact k
end
end Wp
namespace Wp
open PySem PySem.Spec PyProof.Rows L2
open PySem.W (Codec)
theorem ev_eqI {σ:L2.St} {H:Hp} {ta tb:TE} {i j:Int} (ha:Ev ta σ H (.int i)) (hb:Ev tb σ H (.int j)):Ev (tOp rEq ta tb) σ H (.bl (decide (i = j))):=fun H' s R k =>
 ha H' s _ fun H1 s1=>hb H1 (s.trans s1) _ fun H2 s2=>⟨rfl,by
  have e:decide (V.int i = V.int j) = decide (i = j):=by
   by_cases h:i = j
   ·subst h; simp
   ·have:¬ V.int i = V.int j:=fun z=>h (V.int.inj z)
    simp [h,this]
  rw [e]
  exact k H2 (s1.trans s2)⟩
theorem ev_neI {σ:L2.St} {H:Hp} {ta tb:TE} {i j:Int} (ha:Ev ta σ H (.int i)) (hb:Ev tb σ H (.int j)):Ev (tOp rNe ta tb) σ H (.bl (!decide (i = j))):=fun H' s R k =>
 ha H' s _ fun H1 s1=>hb H1 (s.trans s1) _ fun H2 s2=>⟨rfl,by
  have e:decide (V.int i = V.int j) = decide (i = j):=by
   by_cases h:i = j
   ·subst h; simp
   ·have:¬ V.int i = V.int j:=fun z=>h (V.int.inj z)
    simp [h,this]
  rw [e]
  exact k H2 (s1.trans s2)⟩
section
variable {P:Program} {w:World} {K:PySem.W.Frag} {mg:Str → Option Value} {base:Heap} {t:Adr}
theorem evl_zeros {σ:L2.St} {H:Hp} {tb:TE} {n:Nat} (hb:Ev tb σ H (.int n)) (hn:n ≤ 100000):EvL (tOp rRep (tLst (tCons (tC (.int 0)) tNil)) tb) σ H (nums (List.replicate n 0)):=by
 have hsz:sizeLine = 16777216:=sizeLine_eq
 refine (evl_rep (evl_lst (eva_1 ev_c) (by show 1 ≤ sizeLine; omega)) hb (by omega) (by omega) (by show 1 * (n:Int).toNat ≤ sizeLine; omega)).eq ?_
 rw [rep_flat,nums_rep]
 rfl
noncomputable def sp_rows_of_zeros:Sp:=SpM fun vs _ rows=>∃ h w:Nat,vs = [.int h,.int w] ∧ h ≤ 1000 ∧ w ≤ 1000 ∧ rows = Wm.zerosR h w
theorem ok_rows_of_zeros (T:Txt K mg t):FnOk P w K mg base CX0 1 t.f_rows_of_zeros t.d_rows_of_zeros ["height","width"] sp_rows_of_zeros:=by
 refine T.F_rows_of_zeros.ok sc_rows_of_zeros (fun vs H Q E h=>?_) (fun cdv A outer s H vs Q E hr h=>?_)
 ·obtain ⟨_,⟨_,_,rfl,_⟩,_⟩:=h
  rfl
 ·obtain ⟨_,⟨hh,ww,rfl,h1,h2,rfl⟩,k⟩:=h
  refine ⟨_,(pss_one (ps_ret (pe_lc (own:=[("row",2)]) rfl sc_rows_of_zeros.nd (pi_range1 rfl T.b_range (pa_cons (pv 0) pa_nil)) (show BlkOk ["height","width","row"] (defScope st_rows_of_zeros) _ [("row",2)] from ⟨rfl,by decide +kernel,by decide +kernel,by decide +kernel,by decide +kernel⟩) (fun _ _ _ _ _=>(pg_name (i:=2) sc_rows_of_zeros.nd rfl (Or.inl rfl))) (fun _ _ _ _ _=>pts_nil) (fun _ _ _ _ _=>(pe_op op_rep (pe_lst (pa_cons pe_int pa_nil)) (pv 1)))))),?_⟩
  exact st_retM (evm_range (n:=hh) (g:=fun _=>List.replicate ww 0) (eva_1 (ev_var rfl)) (by omega) (fun _=>rfl) fun i hi=>evl_zeros (ev_var rfl) (by omega)) (Same.refl H) k
noncomputable def sp_inverse:Sp:=SpV fun vs _ v=>∃ x:Nat,vs = [.int x] ∧ x < Rc64.P ∧ v = .int (Rc64.inverse x:Nat)
theorem ok_inverse (T:Txt K mg t):FnOk P w K mg base CX0 1 t.f_inverse t.d_inverse ["x"] sp_inverse:=by
 refine T.F_inverse.ok sc_inverse (fun vs H Q E h=>?_) (fun cdv A outer s H vs Q E hr h=>?_)
 ·obtain ⟨_,⟨_,rfl,_⟩,_⟩:=h
  rfl
 ·obtain ⟨_,⟨x,rfl,hx,rfl⟩,k⟩:=h
  refine ⟨_,(pss_cons (ps_set (i:=1) sc_inverse.nd rfl (Or.inl rfl) pe_int)
   (pss_cons (ps_set (i:=2) sc_inverse.nd rfl (Or.inl rfl) (pv 0))
   (pss_cons (ps_set (i:=3) sc_inverse.nd rfl (Or.inl rfl) (pe_op op_sub (pe_glob (v:=.int 2147483647) rfl T.m_P ⟨_,rfl⟩) pe_int))
   (pss_cons (ps_while PassesOwn.never (pt_cmpR op_gt (pv 3) pe_int (nomark _)) (pss_cons (ps_if (pt_cmpR op_eq (pe_op op_mod (pv 3) pe_int) pe_int (nomark _)) (pss_one (ps_set (i:=1) sc_inverse.nd rfl (Or.inl rfl) (pe_op op_mod (pe_op op_mul (pv 1) (pv 2)) (pe_glob (v:=.int 2147483647) rfl T.m_P ⟨_,rfl⟩)))) pss_nil)
   (pss_cons (ps_set (i:=2) sc_inverse.nd rfl (Or.inl rfl) (pe_op op_mod (pe_op op_mul (pv 2) (pv 2)) (pe_glob (v:=.int 2147483647) rfl T.m_P ⟨_,rfl⟩)))
   (pss_one (ps_set (i:=3) sc_inverse.nd rfl (Or.inl rfl) (pe_op op_fdiv (pv 3) pe_int))))))
   (pss_one (ps_ret (pv 1))))))),?_⟩
  refine st_set (v:=.int ((1:Nat):Int)) ev_c (Same.refl H) fun H1 s1=>?_
  refine st_set (v:=.int (x:Int)) (ev_var rfl) (Same.refl H1) fun H2 s2=>?_
  obtain ⟨e,he⟩:∃ e:Nat,e = Rc64.P - 2:=⟨_,rfl⟩
  have he':(2147483647:Int) - 2 = (e:Int):=by rw [he,Wm.P_eq]; rfl
  refine st_set (v:=.int (e:Int)) (Ev.eq (ev_sub (i:=2147483647) (j:=2) ev_c ev_c) (congrArg V.int he')) (Same.refl H2) fun H3 s3=>?_
  have s03:=(s1.trans s2).trans s3
  refine ⟨fun m σ H'=>∃ (p sq e:Nat),e = m ∧ Same H H' ∧ σ = [some (.int x),some (.int p),some (.int sq),some (.int e)] ∧ p < Rc64.P ∧ sq < Rc64.P ∧ p * sq ^ e % Rc64.P = Rc64.inverse x,⟨e,1,x,e,rfl,s03,rfl,by rw [Wm.P_eq]; decide,hx,Wm.pow_start hx he⟩,?_⟩
  rintro m σ H4 ⟨p,sq,e,rfl,s4,rfl,hp,hsq,hinv⟩
  refine (evt_test (ev_op0 (g:=fun i j=>V.bl (decide (j < i))) (i:=(e:Int)) (j:=0) (ev_var rfl) ev_c)) H4 (Same.refl H4) _ fun H5 s5=>?_
  by_cases he0:0 < e
  ·refine itY (decide_eq_true (by omega)) ?_
   refine ⟨fun σ' H'=>∃ (p' sq' e':Nat),e' < e ∧ Same H H' ∧ σ' = [some (.int x),some (.int p'),some (.int sq'),some (.int e')] ∧ p' < Rc64.P ∧ sq' < Rc64.P ∧ p' * sq' ^ e' % Rc64.P = Rc64.inverse x,fun σ' H' ⟨p',sq',e',hlt,h1,h2,h3,h4,h5⟩=>⟨e',hlt,p',sq',e',rfl,h1,h2,h3,h4,h5⟩,?_⟩
   have hsq64:sq < 2 ^ 64:=by rw [Wm.P_eq] at hsq; omega
   have hp64:p < 2 ^ 64:=by rw [Wm.P_eq] at hp; omega
   have rest:∀ (p':Nat) (H6:Hp),Same H H6 → p' < Rc64.P → p' * (sq * sq % Rc64.P) ^ (e / 2) % Rc64.P = Rc64.inverse x → _:=fun p' H6 s6 hp' hinv' =>
    st_set (D:={ nx:=fun σ H'=>tAsg (tOp (rI CDiv fun i j=>.int (i / j)) (tVar 3) (tC (.int 2))) (gName 3) { nx:=fun σ' H'=>∃ (p' sq' e':Nat),e' < e ∧ Same H H' ∧ σ' = [some (.int x),some (.int p'),some (.int sq'),some (.int e')] ∧ p' < Rc64.P ∧ sq' < Rc64.P ∧ p' * sq' ^ e' % Rc64.P = Rc64.inverse x,rt:=fun _ _=>True } σ H',rt:=fun _ _=>True }) (σ:=[some (.int x),some (.int p'),some (.int sq),some (.int e)]) (i:=2) (H:=H6)
     (Ev.eq (ev_mod (ev_mul (ev_var (i:=2) rfl) (ev_var (i:=2) rfl) (cmul_nat hsq64)) ev_c (j:=2147483647) (by decide)) (congrArg V.int (Wm.int_mul_mod sq sq))) (Same.refl H6) fun H7 s7=>st_set (Ev.eq (ev_op (C:=CDiv) (g:=fun i j=>V.int (i / j)) (i:=(e:Int)) (j:=2) (ev_var rfl) ev_c ⟨by decide,by decide⟩) (show V.int ((e:Int) / 2) = V.int ((e / 2:Nat):Int) from congrArg V.int (by omega))) (Same.refl H7) fun H8 s8 =>
      ⟨p',sq * sq % Rc64.P,e / 2,by omega,(s6.trans s7).trans s8,rfl,hp',Nat.mod_lt _ Wm.P_pos,hinv'⟩
   refine (evt_test (ev_eqI (ev_mod (i:=(e:Int)) (j:=2) (ev_var rfl) ev_c (by decide)) (j:=1) ev_c)) H5 (Same.refl H5) _ fun H6 s6=>?_
   by_cases hodd:e % 2 = 1
   ·refine itY (decide_eq_true (by omega)) ?_
    refine st_set (Ev.eq (ev_mod (ev_mul (ev_var (i:=1) rfl) (ev_var (i:=2) rfl) (cmul_nat hp64)) ev_c (j:=2147483647) (by decide)) (congrArg V.int (Wm.int_mul_mod p sq))) (Same.refl H6) fun H7 s7=>?_
    exact rest _ H7 (((s4.trans s5).trans s6).trans s7) (Nat.mod_lt _ Wm.P_pos) (Wm.pow_odd hinv hodd)
   ·refine itN (decide_eq_false (by omega)) ?_
    exact rest p H6 ((s4.trans s5).trans s6) hp (Wm.pow_even hinv (by omega))
  ·refine itN (decide_eq_false (by omega)) ?_
   have e0:e = 0:=by omega
   subst e0
   rw [Nat.pow_zero,Nat.mul_one,Nat.mod_eq_of_lt hp] at hinv
   subst hinv
   exact st_ret (ev_var rfl) (Same.refl H5) fun H6 s6=>k H6 ((s4.trans s5).trans s6)
noncomputable def sp_multiple:Sp:=SpL fun vs H xs=>∃ (x:Int) (p:Addr) (v:List Nat) (g:Nat → Nat),vs = [.int x,.ref p] ∧ H p = some (.lst (nums v)) ∧ v.length ≤ 100000 ∧ Wm.below v ∧ (∀ i,i < v.length → x * ((v.getD i 0:Nat):Int) % 2147483647 = (g i:Nat)) ∧ xs = nums ((List.range v.length).map g)
theorem ok_multiple (T:Txt K mg t):FnOk P w K mg base CX0 1 t.f_multiple t.d_multiple ["x","row"] sp_multiple:=by
 refine T.F_multiple.ok sc_multiple (fun vs H Q E h=>?_) (fun cdv A outer s H vs Q E hr h=>?_)
 ·obtain ⟨_,⟨_,_,_,_,rfl,_⟩,_⟩:=h
  rfl
 ·obtain ⟨_,⟨x,p,v,g,rfl,hp,hl,hb,hg,rfl⟩,k⟩:=h
  refine ⟨_,(pss_one (ps_ret (pe_lc (own:=[("y",2)]) rfl sc_multiple.nd (pi_list (pv 1)) (show BlkOk ["x","row","y"] (defScope st_multiple) _ [("y",2)] from ⟨rfl,by decide +kernel,by decide +kernel,by decide +kernel,by decide +kernel⟩) (fun _ _ _ _ _=>(pg_name (i:=2) sc_multiple.nd rfl (Or.inl rfl))) (fun _ _ _ _ _=>pts_nil) (fun _ _ _ _ _=>(pe_op op_mod (pe_op op_mul (pv 0) (pv 2)) (pe_glob (v:=.int 2147483647) rfl T.m_P ⟨_,rfl⟩)))))),?_⟩
  refine st_retL (EvL.eq (evl_in (K:=K) (p:=p) (xs:=nums v) (g:=fun i=>.int ((g i:Nat):Int)) (ev_var rfl) (SqL.of hp) (by rw [nums_len]; omega) (fun _=>rfl) fun i y hy=>?_) ?_) (Same.refl H) k
  ·obtain ⟨hi,rfl⟩:=nums_at hy
   exact Ev.eq (ev_mod (ev_mul (ev_var rfl) (ev_var rfl) (cmul_natR (Wm.below_lt64 hb i))) ev_c (j:=2147483647) (by decide)) (congrArg V.int (hg i hi))
  ·rw [nums_len,nums_range]
noncomputable def sp_difference:Sp:=SpL fun vs H xs=>∃ (p q:Addr) (u v:List Nat),vs = [.ref p,.ref q] ∧ H p = some (.lst (nums u)) ∧ H q = some (.lst (nums v)) ∧ u.length = v.length ∧ u.length ≤ 100000 ∧ Wm.below v ∧ xs = nums (Wm.subR u v)
theorem ok_difference (T:Txt K mg t):FnOk P w K mg base CX0 1 t.f_difference t.d_difference ["row","other"] sp_difference:=by
 refine T.F_difference.ok sc_difference (fun vs H Q E h=>?_) (fun cdv A outer s H vs Q E hr h=>?_)
 ·obtain ⟨_,⟨_,_,_,_,rfl,_⟩,_⟩:=h
  rfl
 ·obtain ⟨_,⟨p,q,u,v,rfl,hp,hq,he,hl,hb,rfl⟩,k⟩:=h
  refine ⟨_,(pss_one (ps_ret (pe_lc (own:=[("x",2),("y",3)]) rfl sc_difference.nd (pi_zip rfl T.b_zip (pa_cons (pv 0) (pa_cons (pv 1) pa_nil))) (show BlkOk ["row","other","x","y"] (defScope st_difference) _ [("x",2),("y",3)] from ⟨rfl,by decide +kernel,by decide +kernel,by decide +kernel,by decide +kernel⟩) (fun _ _ _ _ _=>(show PG _ _ (gTup K 2 (gCons (gName 2) (gCons (gName 3) gNil))) from pg_tup (n:=2) rfl (pgs_cons (pg_name (i:=2) sc_difference.nd rfl (Or.inl rfl) (hf:=Or.inr rfl)) (pgs_cons (pg_name (i:=3) sc_difference.nd rfl (Or.inl rfl) (hf:=Or.inr rfl)) pgs_nil)))) (fun _ _ _ _ _=>pts_nil) (fun _ _ _ _ _=>(pe_op op_mod (pe_op op_sub (pv 2) (pv 3)) (pe_glob (v:=.int 2147483647) rfl T.m_P ⟨_,rfl⟩)))))),?_⟩
  refine st_retL (EvL.eq (evl_zip (K:=K) (p:=p) (q:=q) (xs:=nums u) (ys:=nums v) (n:=u.length) (g:=fun i=>.int (((u.getD i 0 + (Rc64.P - v.getD i 0)) % Rc64.P:Nat):Int)) (eva_2 (ev_var rfl) (ev_var rfl)) (SqL.of hp) (SqL.of hq) (by rw [nums_len]; omega) (by rw [nums_len]; omega) (.inl (nums_len u)) (by omega) (fun _ _=>rfl) fun i x y hx hy=>?_) ?_) (Same.refl H) k
  ·obtain ⟨hi,rfl⟩:=nums_at hx
   obtain ⟨_,rfl⟩:=nums_at hy
   exact Ev.eq (ev_mod (ev_sub (ev_var rfl) (ev_var rfl)) ev_c (j:=2147483647) (by decide)) (congrArg V.int (Wm.int_sub_mod (Wm.below_getD hb i)))
  ·rw [nums_range]
   rfl
noncomputable def sp_sum_of_products:Sp:=SpV fun vs H r=>∃ (p q:Addr) (u v:List Nat),vs = [.ref p,.ref q] ∧ H p = some (.lst (nums u)) ∧ H q = some (.lst (nums v)) ∧ u.length = v.length ∧ u.length ≤ 100000 ∧ Wm.below u ∧ r = .int (Wm.dotR u v:Nat)
theorem sum_cast (n:Nat) (g:Nat → Nat):((List.range n).map fun i=>((g i:Nat):Int)).sum = ((((List.range n).map g).sum:Nat):Int):=by
 induction n with
 | zero=>rfl
 | succ n ih =>
  rw [List.range_succ,List.map_append,List.map_append,List.sum_append,List.sum_append,ih]
  simp
theorem ok_sum_of_products (T:Txt K mg t):FnOk P w K mg base CX0 1 t.f_sum_of_products t.d_sum_of_products ["row","other"] sp_sum_of_products:=by
 refine T.F_sum_of_products.ok sc_sum_of_products (fun vs H Q E h=>?_) (fun cdv A outer s H vs Q E hr h=>?_)
 ·obtain ⟨_,⟨_,_,_,_,rfl,_⟩,_⟩:=h
  rfl
 ·obtain ⟨_,⟨p,q,u,v,rfl,hp,hq,he,hl,hb,rfl⟩,k⟩:=h
  refine ⟨_,(pss_one (ps_ret (pe_op op_mod (pe_callB (call_sum rfl) (by rfl) T.b_sum PyProof.Rows.boot_sum (pa_cons (pe_lc (own:=[("x",2),("y",3)]) rfl sc_sum_of_products.nd (pi_zip rfl T.b_zip (pa_cons (pv 0) (pa_cons (pv 1) pa_nil))) (show BlkOk ["row","other","x","y"] (defScope st_sum_of_products) _ [("x",2),("y",3)] from ⟨rfl,by decide +kernel,by decide +kernel,by decide +kernel,by decide +kernel⟩) (fun _ _ _ _ _=>(show PG _ _ (gTup K 2 (gCons (gName 2) (gCons (gName 3) gNil))) from pg_tup (n:=2) rfl (pgs_cons (pg_name (i:=2) sc_sum_of_products.nd rfl (Or.inl rfl) (hf:=Or.inr rfl)) (pgs_cons (pg_name (i:=3) sc_sum_of_products.nd rfl (Or.inl rfl) (hf:=Or.inr rfl)) pgs_nil)))) (fun _ _ _ _ _=>pts_nil) (fun _ _ _ _ _=>(pe_op op_mul (pv 2) (pv 3)))) pa_nil)) (pe_glob (v:=.int 2147483647) rfl T.m_P ⟨_,rfl⟩)))),?_⟩
  refine st_ret (Ev.eq (ev_mod (ev_sumL (K:=K) (ns:=(List.range u.length).map fun i=>((u.getD i 0 * v.getD i 0:Nat):Int)) (EvL.eq (evl_zip (K:=K) (p:=p) (q:=q) (xs:=nums u) (ys:=nums v) (n:=u.length) (g:=fun i=>.int ((u.getD i 0 * v.getD i 0:Nat):Int)) (eva_2 (ev_var rfl) (ev_var rfl)) (SqL.of hp) (SqL.of hq) (by rw [nums_len]; omega) (by rw [nums_len]; omega) (.inl (nums_len u)) (by omega) (fun _ _=>rfl) fun i x y hx hy=>?_) ?_)) ev_c (j:=2147483647) (by decide)) ?_) (Same.refl H) k
  ·obtain ⟨hi,rfl⟩:=nums_at hx
   obtain ⟨_,rfl⟩:=nums_at hy
   exact Ev.eq (ev_mul (ev_var rfl) (ev_var rfl) (cmul_nat (Wm.below_lt64 hb i))) (congrArg V.int (by rw [Int.natCast_mul]))
  ·rw [List.map_map]
   rfl
  ·rw [sum_cast,Wm.int_mod]
   rfl
noncomputable def sp_sum_of_multiples:Sp:=SpL fun vs H xs=>∃ (p q:Addr) (as:List Addr) (fs:List Nat) (rows:List (List Nat)) (w:Nat),vs = [.ref p,.ref q,.int w] ∧ H p = some (.lst (nums fs)) ∧ H q = some (.lst (as.map V.ref)) ∧ Rows H as rows ∧ fs.length = rows.length ∧ (∀ i,i < rows.length → (rows.getD i []).length = w) ∧ Wm.below fs ∧ w ≤ 1000 ∧ fs.length ≤ 1000 ∧ xs = nums (Wm.somR fs rows w)
theorem ok_sum_of_multiples (T:Txt K mg t):FnOk P w K mg base CX0 1 t.f_sum_of_multiples t.d_sum_of_multiples ["factors","rows","width"] sp_sum_of_multiples:=by
 refine T.F_sum_of_multiples.ok sc_sum_of_multiples (fun vs H Q E h=>?_) (fun cdv A outer s H vs Q E hr h=>?_)
 ·obtain ⟨_,⟨_,_,_,_,_,_,rfl,_⟩,_⟩:=h
  rfl
 ·obtain ⟨_,⟨p,q,as,fs,rows,ww,rfl,hp,hq,hR,hlen,hrl,hb,hw,hfl,rfl⟩,k⟩:=h
  refine ⟨_,(pss_cons (ps_set (i:=3) sc_sum_of_multiples.nd rfl (Or.inl rfl) (pe_op op_rep (pe_lst (pa_cons pe_int pa_nil)) (pv 2)))
   (pss_cons (ps_for PassesOwn.never rfl (pi_zip rfl T.b_zip (pa_cons (pv 0) (pa_cons (pv 1) pa_nil))) (show PG _ _ (gTup K 2 (gCons (gName 4) (gCons (gName 5) gNil))) from pg_tup (n:=2) rfl (pgs_cons (pg_name (i:=4) sc_sum_of_multiples.nd rfl (Or.inr rfl) (hf:=Or.inl rfl)) (pgs_cons (pg_name (i:=5) sc_sum_of_multiples.nd rfl (Or.inl rfl) (hf:=Or.inl rfl)) pgs_nil))) (pss_one (ps_if (pt_cmpR op_ne (pv 4) pe_int (nomark _)) (pss_one (ps_setLc (i:=3) (own:=[("y",6),("z",7)]) rfl sc_sum_of_multiples.nd rfl rfl (sw_true rfl rfl rfl rfl) (pi_zip rfl T.b_zip (pa_cons (pv 3) (pa_cons (pv 5) pa_nil))) (show BlkOk ["factors","rows","width","sums","x","row","y","z"] (defScope st_sum_of_multiples) _ [("y",6),("z",7)] from ⟨rfl,by decide +kernel,by decide +kernel,by decide +kernel,by decide +kernel⟩) (fun _ _ _ _ _=>(show PG _ _ (gTup K 2 (gCons (gName 6) (gCons (gName 7) gNil))) from pg_tup (n:=2) rfl (pgs_cons (pg_name (i:=6) sc_sum_of_multiples.nd rfl (Or.inl rfl) (hf:=Or.inr rfl)) (pgs_cons (pg_name (i:=7) sc_sum_of_multiples.nd rfl (Or.inl rfl) (hf:=Or.inr rfl)) pgs_nil)))) (fun _ _ _ _ _=>pts_nil) (fun _ _ _ _ _=>(pe_op op_add (pv 6) (pe_op op_mul (pv 4) (pv 7)))))) pss_nil)))
   (pss_one (ps_ret (pe_lc (own:=[("y",6)]) rfl sc_sum_of_multiples.nd (pi_list (pv 3)) (show BlkOk ["factors","rows","width","sums","x","row","y","z"] (defScope st_sum_of_multiples) _ [("y",6)] from ⟨rfl,by decide +kernel,by decide +kernel,by decide +kernel,by decide +kernel⟩) (fun _ _ _ _ _=>(pg_name (i:=6) sc_sum_of_multiples.nd rfl (Or.inl rfl))) (fun _ _ _ _ _=>pts_nil) (fun _ _ _ _ _=>(pe_op op_mod (pv 6) (pe_glob (v:=.int 2147483647) rfl T.m_P ⟨_,rfl⟩)))))))),?_⟩
  refine st_setL (evl_zeros (n:=ww) (ev_var rfl) (by omega)) (Same.refl H) fun H1 l1 s1 _ hl1=>?_
  refine st_forZ (eva_2 (v:=.ref p) (u:=.ref q) (ev_var rfl) (ev_var rfl)) (Same.refl H1) fun H2 s2=>⟨p,q,nums fs,as.map V.ref,rfl,SqL.of (s2 _ _ (s1 _ _ hp)),SqL.of (s2 _ _ (s1 _ _ hq)),?_⟩
  have hal:as.length = rows.length:=hR.len
  refine ⟨fun i m σ H'=>m = fs.length - i ∧ i ≤ fs.length ∧ Same H H' ∧ ∃ (l:Addr) (v4 v5:Option V),σ = [some (.ref p),some (.ref q),some (.int ww),some (.ref l),v4,v5,none,none] ∧ H' l = some (.lst (nums (Wm.accS fs rows ww i))),⟨_,rfl,Nat.zero_le _,s1.trans s2,l1,none,none,rfl,by rw [Wm.accS_zero]; exact s2 _ _ hl1⟩,?_⟩
  rintro i m σ H3 ⟨rfl,hi,s3,l,v4,v5,rfl,hl⟩
  have sx:SqL K H3 p (nums fs):=SqL.of (s3 _ _ hp)
  have sy:SqL K H3 q (as.map V.ref):=SqL.of (s3 _ _ hq)
  by_cases hlt:i < fs.length
  ·have h1:i < (nums fs).length:=by rw [nums_len]; exact hlt
   have h2:i < (as.map V.ref).length:=by rw [List.length_map]; omega
   refine .inr ⟨⟨_,_,(nums fs)[i],(as.map V.ref)[i],sx,sy,List.getElem?_eq_getElem h1,List.getElem?_eq_getElem h2⟩,fun σ' H'=>Same H H' ∧ ∃ (l:Addr) (v4 v5:Option V),σ' = [some (.ref p),some (.ref q),some (.int ww),some (.ref l),v4,v5,none,none] ∧ H' l = some (.lst (nums (Wm.accS fs rows ww (i + 1)))),fun σ' H' h=>⟨fs.length - (i + 1),by omega,rfl,hlt,h⟩,?_⟩
   rintro v H4 ⟨Tt,x,y,rfl,hT,rfl,hx',hy'⟩
   obtain ⟨_,rfl⟩:=nums_at (hx' _ sx)
   obtain ⟨a,rfl,hir,_,ha⟩:=(hR.same s3).at (hy' _ sy)
   have s34:Same H3 (upd H3 Tt (.tup [.int ((fs.getD i 0:Nat):Int),.ref a])):=fun c u e=>by rw [upd_ne (ne_of_none e hT)]; exact e
   refine ⟨Tt,_,rfl,SqT.of upd_same,rfl,_,_,rfl,_,_,rfl,rfl,?_⟩
   generalize upd H3 Tt (.tup [.int ((fs.getD i 0:Nat):Int),.ref a]) = H4 at s34 ⊢
   refine (evt_test (ev_neI (i:=((fs.getD i 0:Nat):Int)) (j:=0) (ev_var rfl) ev_c)) H4 (Same.refl H4) _ fun H5 s5=>?_
   have s05:=(s3.trans s34).trans s5
   by_cases hz:fs.getD i 0 = 0
   ·refine itN (ne_no hz) ?_
    refine ⟨s05,l,_,_,rfl,?_⟩
    rw [Wm.accS_skip rows ww hz]
    exact s5 _ _ (s34 _ _ hl)
   ·refine itY (ne_yes hz) ?_
    have hacc:(Wm.accS fs rows ww i).length = ww:=Wm.accS_len ..
    have hro:(rows.getD i []).length = ww:=hrl i hir
    refine st_setL (EvL.eq (evl_zip (K:=K) (p:=l) (q:=a) (xs:=nums (Wm.accS fs rows ww i)) (ys:=nums (rows.getD i [])) (n:=ww) (g:=fun j=>.int (((Wm.accS fs rows ww i).getD j 0 + fs.getD i 0 * (rows.getD i []).getD j 0:Nat):Int)) (eva_2 (ev_var rfl) (ev_var rfl)) (SqL.of (s5 _ _ (s34 _ _ hl))) (SqL.of (s5 _ _ (s34 _ _ ha))) (by rw [nums_len]; omega) (by rw [nums_len]; omega) (.inl (by rw [nums_len]; omega)) (by omega) (fun _ _=>rfl) fun j x y hx hy=>?_) ?_) (Same.refl H5) fun H6 l6 s6 _ hl6=>⟨s05.trans s6,l6,_,_,rfl,hl6⟩
    ·obtain ⟨_,rfl⟩:=nums_at hx
     obtain ⟨_,rfl⟩:=nums_at hy
     exact Ev.eq (ev_add (ev_var rfl) (ev_mul (ev_var rfl) (ev_var rfl) (cmul_nat (Wm.below_lt64 hb i)))) (congrArg V.int (by rw [Int.natCast_add,Int.natCast_mul]))
    ·rw [nums_range,Wm.accS_succ]
  ·have e:i = fs.length:=by omega
   subst e
   refine .inl ⟨⟨_,_,sx,sy,.inl (by rw [nums_len]; exact Nat.le_refl _)⟩,?_⟩
   have hacc:(Wm.accS fs rows ww fs.length).length = ww:=Wm.accS_len ..
   refine st_retL (EvL.eq (evl_in (K:=K) (p:=l) (xs:=nums (Wm.accS fs rows ww fs.length)) (g:=fun j=>.int (((Wm.accS fs rows ww fs.length).getD j 0 % Rc64.P:Nat):Int)) (ev_var rfl) (SqL.of hl) (by rw [nums_len]; omega) (fun _=>rfl) fun j y hy=>?_) ?_) (Same.refl H3) fun H4 p4 s4 hp4 hl4=>k H4 p4 (s3.trans s4) (s3.free hp4) hl4
   ·obtain ⟨_,rfl⟩:=nums_at hy
    exact Ev.eq (ev_mod (ev_var rfl) ev_c (j:=2147483647) (by decide)) (congrArg V.int (Wm.int_mod _))
   ·rw [nums_len,hacc,nums_range,Wm.accS_end]
noncomputable def sp_place:Sp:=SpV fun vs H r=>∃ (p:Addr) (v:List Nat),vs = [.ref p] ∧ H p = some (.lst (nums v)) ∧ r = match v.findIdx? (fun a=>a != 0) with | none=>V.non | some i=>.int (i:Nat)
theorem ok_place_of_first_number (T:Txt K mg t):FnOk P w K mg base CX0 1 t.f_place_of_first_number t.d_place_of_first_number ["row"] sp_place:=by
 refine T.F_place_of_first_number.ok sc_place_of_first_number (fun vs H Q E h=>?_) (fun cdv A outer s H vs Q E hr h=>?_)
 ·obtain ⟨_,⟨_,_,rfl,_⟩,_⟩:=h
  rfl
 ·obtain ⟨_,⟨p,v,rfl,hp,rfl⟩,k⟩:=h
  refine ⟨_,(pss_cons (ps_for PassesOwn.never rfl (pi_enum rfl T.b_enumerate (pa_cons (pv 0) pa_nil)) (show PG _ _ (gTup K 2 (gCons (gName 1) (gCons (gName 2) gNil))) from pg_tup (n:=2) rfl (pgs_cons (pg_name (i:=1) sc_place_of_first_number.nd rfl (Or.inl rfl) (hf:=Or.inl rfl)) (pgs_cons (pg_name (i:=2) sc_place_of_first_number.nd rfl (Or.inl rfl) (hf:=Or.inl rfl)) pgs_nil))) (pss_one (ps_if (pt_cmpR op_ne (pv 2) pe_int (nomark _)) (pss_one (ps_ret (pv 1))) pss_nil)))
   (pss_one (ps_ret pe_non))),?_⟩
  refine st_forE (eva_1 (v:=.ref p) (ev_var rfl)) (Same.refl H) fun H2 s2=>⟨p,nums v,rfl,SqL.of (s2 _ _ hp),?_⟩
  refine ⟨fun i m σ H'=>m = v.length - i ∧ i ≤ v.length ∧ Same H H' ∧ (∃ (v1 v2:Option V),σ = [some (.ref p),v1,v2]) ∧ ∀ j,j < i → v.getD j 0 = 0,⟨_,rfl,Nat.zero_le _,s2,⟨none,none,rfl⟩,fun j hj=>absurd hj (by omega)⟩,?_⟩
  rintro i m σ H3 ⟨rfl,hi,s3,⟨v1,v2,rfl⟩,hz⟩
  have sx:SqL K H3 p (nums v):=SqL.of (s3 _ _ hp)
  by_cases hlt:i < v.length
  ·have h1:i < (nums v).length:=by rw [nums_len]; exact hlt
   refine .inr ⟨⟨_,(nums v)[i],sx,List.getElem?_eq_getElem h1⟩,fun σ' H'=>Same H H' ∧ (∃ (v1 v2:Option V),σ' = [some (.ref p),v1,v2]) ∧ ∀ j,j < i + 1 → v.getD j 0 = 0,fun σ' H' h=>⟨v.length - (i + 1),by omega,rfl,hlt,h⟩,?_⟩
   rintro y H4 ⟨Tt,x,rfl,hT,rfl,hx'⟩
   obtain ⟨_,rfl⟩:=nums_at (hx' _ sx)
   have s34:Same H3 (upd H3 Tt (.tup [.int (i:Nat),.int ((v.getD i 0:Nat):Int)])):=fun c u e=>by rw [upd_ne (ne_of_none e hT)]; exact e
   refine ⟨Tt,_,rfl,SqT.of upd_same,rfl,_,_,rfl,_,_,rfl,rfl,?_⟩
   generalize upd H3 Tt (.tup [.int (i:Nat),.int ((v.getD i 0:Nat):Int)]) = H4 at s34 ⊢
   refine (evt_test (ev_neI (i:=((v.getD i 0:Nat):Int)) (j:=0) (ev_var rfl) ev_c)) H4 (Same.refl H4) _ fun H5 s5=>?_
   have s05:=(s3.trans s34).trans s5
   by_cases hz0:v.getD i 0 = 0
   ·refine itN (ne_no hz0) ?_
    refine ⟨s05,⟨_,_,rfl⟩,fun j hj=>?_⟩
    by_cases e:j = i
    ·subst e; exact hz0
    ·exact hz j (by omega)
   ·refine itY (ne_yes hz0) ?_
    have e:=Wm.find_some hlt hz hz0
    rw [e] at k
    exact st_ret (ev_var rfl) (Same.refl H5) fun H6 s6=>k H6 (s05.trans s6)
  ·have e:i = v.length:=by omega
   subst e
   refine .inl ⟨⟨_,sx,by rw [nums_len]; exact Nat.le_refl _⟩,?_⟩
   rw [Wm.find_none hz] at k
   dsimp only
   refine st_ret (v:=.non) ev_c (Same.refl H3) fun H6 s6=>?_
   exact k H6 (s3.trans s6)
end
end Wp
namespace Wp
open PySem PySem.Spec PyProof.Rows L2
open PySem.W (Codec)
section
variable {P:Program} {w:World} {K:PySem.W.Frag} {mg:Str → Option Value} {base:Heap} {t:Adr}
noncomputable def sp_Machine_init (t:Adr):Sp:=fun vs H Q _=>∃ (a dx lf ll lh:Addr) (fs hs:List V),vs = [.ref a,.ref lf,.ref ll,.ref lh] ∧ H a = some (.ins t.c_Machine dx []) ∧ H lf = some (.lst fs) ∧ H lh = some (.lst hs) ∧
 ∀ H',H' = upd H a (.ins t.c_Machine dx (mF fs.length hs.length lf ll lh)) → Q .non H'
theorem ok_Machine_init (T:Txt K mg t):FnOk P w K mg base CX0 1 t.f_Machine_init t.d_Machine_init ["self","firsts","lasts","hands"] (sp_Machine_init t):=by
 refine T.F_Machine_init.ok sc_Machine_init (fun vs H Q E h=>?_) (fun cdv A outer s H vs Q E hr h=>?_)
 ·obtain ⟨a,dx,lf,ll,lh,fs,hs,rfl,_⟩:=h
  rfl
 ·obtain ⟨a,dx,lf,ll,lh,fs,hs,rfl,ha,hf,hh,k⟩:=h
  have n1:lf ≠ a:=fun z=>by rw [z,ha] at hf; cases hf
  have n2:lh ≠ a:=fun z=>by rw [z,ha] at hh; cases hh
  refine ⟨_,(pss_cons (ps_fld (pv 0) (pe_callB call_len_seq (by rfl) T.b_len PySem.boot_len (pa_cons (pv 1) pa_nil)) rfl)
   (pss_cons (ps_fld (pv 0) (pe_callB call_len_seq (by rfl) T.b_len PySem.boot_len (pa_cons (pv 3) pa_nil)) rfl)
   (pss_cons (ps_fld (pv 0) (pv 1) rfl)
   (pss_cons (ps_fld (pv 0) (pv 2) rfl)
   (pss_one (ps_fld (pv 0) (pv 3) rfl)))))),?_⟩
  refine ⟨_,rfl,lf,fs,rfl,.inl (SqL.of hf),_,rfl,a,_,dx,_,rfl,ha,T.cl_Machine,T.na_Machine_states,(by show 0 < 1000; decide),?_⟩
  refine ⟨_,rfl,lh,hs,rfl,.inl (SqL.of (by rw [upd_ne n2]; exact hh)),_,rfl,a,_,dx,_,rfl,upd_same,T.cl_Machine,T.na_Machine_letters,(by show 1 < 1000; decide),?_⟩
  refine ⟨_,rfl,_,rfl,a,_,dx,_,rfl,upd_same,T.cl_Machine,T.na_Machine_firsts,(by show 2 < 1000; decide),?_⟩
  refine ⟨_,rfl,_,rfl,a,_,dx,_,rfl,upd_same,T.cl_Machine,T.na_Machine_lasts,(by show 3 < 1000; decide),?_⟩
  refine ⟨_,rfl,_,rfl,a,_,dx,_,rfl,upd_same,T.cl_Machine,T.na_Machine_hands,(by show 4 < 1000; decide),?_⟩
  refine k _ ?_
  rw [upd_upd,upd_upd,upd_upd,upd_upd]
  rfl
theorem mk_machine {σ:L2.St} {H0 H1:Hp} {ta:TA} {m:Wm.PM} {lh:Addr} {ps:List (Addr × List Addr)} {D:Ends} (s01:Same H0 H1) (ok:m.Ok) (hh:H1 lh = some (.lst (ps.map fun (x:Addr × List Addr)=>V.ref x.1))) (hq:Sqs H1 ps m.h)
  (ha:∀ R:List V → Hp → Prop,(∀ lf ll H2,Same H1 H2 → H2 lf = some (.lst (nums m.f)) → H2 ll = some (.lst (nums m.l)) → (lf :: ll :: lh :: sqF ps).Nodup → (∀ b,b ∈ lf :: ll :: lh :: sqF ps → H0 b = none) → R [.ref lf,.ref ll,.ref lh] H2) → ta σ H1 R)
  (k:∀ H' a S,Same H0 H' → Mach t.c_Machine H' a m S → (∀ b,b ∈ S → H0 b = none) → D.rt (.ref a) H'):tRet (tMake t.c_Machine (sp_Machine_init t) [] E0 ta) D σ H1:=by
 refine ha _ fun lf ll H2 s2 hf hl nd fr x dx hx hdx hne=>?_
 have nx:∀ b o,H2 b = some o → b ≠ x ∧ b ≠ dx:=fun b o e=>⟨ne_of_none e hx,ne_of_none e hdx⟩
 have up:∀ b o (z:HO),H2 b = some o → upd (upd H2 dx (.own x)) x z b = some o:=fun b o z e=>by rw [upd_ne (nx b o e).1,upd_ne (nx b o e).2]; exact e
 refine ⟨x,dx,lf,ll,lh,_,_,rfl,upd_same,up _ _ _ hf,up _ _ _ (s2 _ _ hh),fun H3 e3=>⟨rfl,?_⟩⟩
 rw [upd_upd] at e3
 have s23:Same H2 H3:=fun b o e=>by rw [e3]; exact up b o _ e
 have el1:(nums m.f).length = m.n:=by rw [nums_len,ok.fl]
 have el2:(ps.map fun (x:Addr × List Addr)=>V.ref x.1).length = m.k:=by rw [List.length_map,hq.len,ok.hl]
 refine k H3 x (x :: lf :: ll :: lh :: sqF ps) ((s01.trans s2).trans s23) ⟨dx,lf,ll,lh,ps,⟨ok,?_,s23 _ _ hf,s23 _ _ hl,s23 _ _ (s2 _ _ hh),hq.same (s2.trans s23),?_⟩,rfl⟩ fun b hb=>?_
 ·rw [e3,upd_same,el1,el2]
 ·refine List.nodup_cons.2 ⟨fun z=>?_,nd⟩
  have hz:H2 x ≠ none:=by
   rcases List.mem_cons.1 z with e | z
   ·rw [e,hf]; intro z; cases z
   rcases List.mem_cons.1 z with e | z
   ·rw [e,hl]; intro z; cases z
   rcases List.mem_cons.1 z with e | z
   ·rw [e,s2 _ _ hh]; intro z; cases z
   ·exact (hq.same s2).none x z
  exact hz hx
 ·rcases List.mem_cons.1 hb with e | e
  ·rw [e]; exact (s01.trans s2).free hx
  ·exact fr b e
theorem sq_some {H1:Hp} {lh:Addr} {ps:List (Addr × List Addr)} {qs:List (List (List Nat))} {xs:List V} (hh:H1 lh = some (.lst xs)) (hq:Sqs H1 ps qs):∀ b,b ∈ lh :: sqF ps → H1 b ≠ none:=fun b hb=>by
 rcases List.mem_cons.1 hb with e | e
 ·rw [e,hh]; intro z; cases z
 ·exact hq.none b e
theorem args_LL {σ:L2.St} {H0 H1:Hp} {tf tl th:TE} {xs ys:List V} {lh:Addr} {L:List Addr} (hf:EvL tf σ H1 xs) (hl:EvL tl σ H1 ys) (hv:Ev th σ H1 (.ref lh)) (s01:Same H0 H1) (nd:L.Nodup) (fr:∀ b,b ∈ L → H0 b = none) (hne:∀ b,b ∈ L → H1 b ≠ none)
  (R:List V → Hp → Prop) (k:∀ lf ll H2,Same H1 H2 → H2 lf = some (.lst xs) → H2 ll = some (.lst ys) → (lf :: ll :: L).Nodup → (∀ b,b ∈ lf :: ll :: L → H0 b = none) → R [.ref lf,.ref ll,.ref lh] H2):tCons tf (tCons tl (tCons th tNil)) σ H1 R:=by
 refine hf H1 (Same.refl H1) _ fun H2 lf s2 hlf0 hlf=>hl H2 s2 _ fun H3 ll s3 hll0 hll=>hv H3 (s2.trans s3) _ fun H4 s4=>?_
 refine k lf ll H4 ((s2.trans s3).trans s4) (s4 _ _ (s3 _ _ hlf)) (s4 _ _ hll) ?_ fun b hb=>?_
 ·refine List.nodup_cons.2 ⟨fun z=>?_,List.nodup_cons.2 ⟨fun z=>hne ll z (s2.free hll0),nd⟩⟩
  rcases List.mem_cons.1 z with e | e
  ·rw [e,hll0] at hlf; cases hlf
  ·exact hne lf e hlf0
 ·rcases List.mem_cons.1 hb with e | hb
  ·rw [e]; exact s01.free hlf0
  rcases List.mem_cons.1 hb with e | hb
  ·rw [e]; exact s01.free (s2.free hll0)
  ·exact fr b hb
theorem args_VVV {σ:L2.St} {H0 H1:Hp} {tf tl th:TE} {xs ys:List V} {f g lh:Addr} {L:List Addr} (h1:Ev tf σ H1 (.ref f)) (h2:Ev tl σ H1 (.ref g)) (h3:Ev th σ H1 (.ref lh)) (hf:H1 f = some (.lst xs)) (hg:H1 g = some (.lst ys)) (nd:(f :: g :: L).Nodup) (fr:∀ b,b ∈ f :: g :: L → H0 b = none)
  (R:List V → Hp → Prop) (k:∀ lf ll H2,Same H1 H2 → H2 lf = some (.lst xs) → H2 ll = some (.lst ys) → (lf :: ll :: L).Nodup → (∀ b,b ∈ lf :: ll :: L → H0 b = none) → R [.ref lf,.ref ll,.ref lh] H2):tCons tf (tCons tl (tCons th tNil)) σ H1 R:=by
 refine h1 H1 (Same.refl H1) _ fun H2 s2=>h2 H2 s2 _ fun H3 s3=>h3 H3 (s2.trans s3) _ fun H4 s4=>?_
 have s14:=(s2.trans s3).trans s4
 exact k f g H4 s14 (s14 _ _ hf) (s14 _ _ hg) nd fr
theorem args_LVV {σ:L2.St} {H0 H1:Hp} {tf tl th:TE} {xs ys:List V} {g lh:Addr} {L:List Addr} (h1:EvL tf σ H1 xs) (h2:Ev tl σ H1 (.ref g)) (h3:Ev th σ H1 (.ref lh)) (hg:H1 g = some (.lst ys)) (s01:Same H0 H1) (nd:(g :: L).Nodup) (fr:∀ b,b ∈ g :: L → H0 b = none) (hne:∀ b,b ∈ g :: L → H1 b ≠ none)
  (R:List V → Hp → Prop) (k:∀ lf ll H2,Same H1 H2 → H2 lf = some (.lst xs) → H2 ll = some (.lst ys) → (lf :: ll :: L).Nodup → (∀ b,b ∈ lf :: ll :: L → H0 b = none) → R [.ref lf,.ref ll,.ref lh] H2):tCons tf (tCons tl (tCons th tNil)) σ H1 R:=by
 refine h1 H1 (Same.refl H1) _ fun H2 f s2 hf0 hf=>h2 H2 s2 _ fun H3 s3=>h3 H3 (s2.trans s3) _ fun H4 s4=>?_
 have s14:=(s2.trans s3).trans s4
 refine k f g H4 s14 (s4 _ _ (s3 _ _ hf)) (s14 _ _ hg) (List.nodup_cons.2 ⟨fun z=>hne f z hf0,nd⟩) fun b hb=>?_
 rcases List.mem_cons.1 hb with e | hb
 ·rw [e]; exact s01.free hf0
 ·exact fr b hb
theorem st_makeVLV {σ:L2.St} {H:Hp} {C:Addr} {sp:Sp} {E:XK} {D:Ends} {tf tl th:TE} {xs:List V} {f lh:Addr} (h1:Ev tf σ H (.ref f)) (h2:EvL tl σ H xs) (h3:Ev th σ H (.ref lh))
  (k:∀ H1 l,Same H H1 → H l = none → H1 l = some (.lst xs) → ∀ x d,H1 x = none → H1 d = none → d ≠ x → sp [.ref x,.ref f,.ref l,.ref lh] (upd (upd H1 d (.own x)) x (.ins C d [])) (fun v H2=>v = .non ∧ D.rt (.ref x) H2) E):tRet (tMake C sp [] E (tCons tf (tCons tl (tCons th tNil)))) D σ H :=
 h1 H (Same.refl H) _ fun H2 s2=>h2 H2 s2 _ fun H3 l s3 hl0 hl=>h3 H3 (s2.trans s3) _ fun H4 s4 x d hx hd hne=>k H4 l ((s2.trans s3).trans s4) (s2.free hl0) (s4 _ _ hl) x d hx hd hne
noncomputable def sp_machine_of_zeros (t:Adr):Sp:=SpMach t.c_Machine fun vs _ m=>∃ n k:Nat,vs = [.int n,.int k] ∧ n ≤ 1000 ∧ k ≤ 1000 ∧ m = Wm.PM.zero n k
theorem zero_h (n k:Nat):(List.range k).map (fun _=>Wm.zerosR n n) = (Wm.PM.zero n k).h:=by
 have e:∀ (j:Nat) (α:Type) (x:α),(List.range j).map (fun _=>x) = List.replicate j x:=fun j α x=>List.ext_getElem (by simp) fun i h1 h2=>by simp
 unfold Wm.zerosR
 rw [e,e]
 rfl
theorem ok_machine_of_zeros (T:Txt K mg t):FnOk P w K mg base CX0 4 t.f_machine_of_zeros t.d_machine_of_zeros ["states","letters"] (sp_machine_of_zeros t):=by
 refine T.F_machine_of_zeros.ok sc_machine_of_zeros (fun vs H Q E h=>?_) (fun cdv A outer s H vs Q E hr h=>?_)
 ·obtain ⟨_,⟨_,_,rfl,_⟩,_⟩:=h
  rfl
 ·obtain ⟨_,⟨n,kk,rfl,h1,h2,rfl⟩,k⟩:=h
  refine ⟨_,(pss_cons (ps_setLc (i:=2) (own:=[("letter",3)]) rfl sc_machine_of_zeros.nd rfl rfl (sw_true rfl rfl rfl rfl) (pi_range1 rfl T.b_range (pa_cons (pv 1) pa_nil)) (show BlkOk ["states","letters","hands","letter"] (defScope st_machine_of_zeros) _ [("letter",3)] from ⟨rfl,by decide +kernel,by decide +kernel,by decide +kernel,by decide +kernel⟩) (fun _ _ _ _ _=>(pg_name (i:=3) sc_machine_of_zeros.nd rfl (Or.inl rfl))) (fun _ _ _ _ _=>pts_nil) (fun _ _ _ _ _=>(pe_call (ok_rows_of_zeros T) (hr.mono (by decide)) rfl T.m_rows_of_zeros T.F_rows_of_zeros.kp (T.F_rows_of_zeros.binds b_rows_of_zeros) .nil pass0 (pa_cons (pv 0) (pa_cons (pv 0) pa_nil)))))
   (pss_one (ps_ret (pe_make T.mk_Machine (ok_Machine_init T) (hr.mono (by decide)) rfl T.m_Machine (T.F_Machine_init.binds b_Machine_init) .nil pass0 (pa_cons (pe_op op_rep (pe_lst (pa_cons pe_int pa_nil)) (pv 0)) (pa_cons (pe_op op_rep (pe_lst (pa_cons pe_int pa_nil)) (pv 0)) (pa_cons (pv 2) pa_nil))))))),?_⟩
  refine st_setS (evs_range (n:=kk) (g:=fun _=>Wm.zerosR n n) (eva_1 (ev_var rfl)) (by omega) (fun _=>rfl) fun i hi=>evm_call (evap_v (v:=.int n) (ev_var rfl) (evap_v (v:=.int n) (ev_var rfl) evap_nil)) fun vs H' s' h=>?_) (Same.refl H) fun H1 lh ps s1 hh hq nd fr=>?_
  ·obtain ⟨us,rfl,us',rfl,rfl⟩:=h
   exact ⟨n,n,rfl,h1,h1,rfl⟩
  ·rw [zero_h] at hq
   exact mk_machine s1 (Wm.PM.zero_ok n kk) hh hq (args_LL (evl_zeros (ev_var rfl) (by omega)) (evl_zeros (ev_var rfl) (by omega)) (ev_var rfl) s1 nd fr (sq_some hh hq)) k
end
end Wp
namespace Wp
open PySem PySem.Spec PyProof.Rows L2
open PySem.W (Codec)
theorem ev_and {σ:L2.St} {H:Hp} {ta tb:TE} {b c:Bool} (ha:Ev ta σ H (.bl b)) (hb:b = true → Ev tb σ H (.bl c)):Ev (tAndV ta tb) σ H (.bl (b && c)):=fun H' s R k =>
 ha H' s _ fun H1 s1=>⟨b,rfl,by
  cases b with
  | true=>exact itY rfl (hb rfl H1 (s.trans s1) R fun H2 s2=>k H2 (s1.trans s2))
  | false=>exact itN rfl (k H1 s1)⟩
section
variable {P:Program} {w:World} {K:PySem.W.Frag} {mg:Str → Option Value} {base:Heap} {t:Adr}
section
variable {σ:L2.St} {H:Hp} {ta:TE} {a:Addr} {m:Wm.PM} {dx lf ll lh:Addr} {ps:List (Addr × List Addr)}
theorem ev_states (T:Txt K mg t) (ha:Ev ta σ H (.ref a)) (M:MachAt t.c_Machine H a m dx lf ll lh ps):Ev (tFld K ta "states") σ H (.int m.n):=ev_fld ha M.ins T.cl_Machine T.na_Machine_states (mF_states ..)
theorem ev_letters (T:Txt K mg t) (ha:Ev ta σ H (.ref a)) (M:MachAt t.c_Machine H a m dx lf ll lh ps):Ev (tFld K ta "letters") σ H (.int m.k):=ev_fld ha M.ins T.cl_Machine T.na_Machine_letters (mF_letters ..)
theorem ev_firsts (T:Txt K mg t) (ha:Ev ta σ H (.ref a)) (M:MachAt t.c_Machine H a m dx lf ll lh ps):Ev (tFld K ta "firsts") σ H (.ref lf):=ev_fld ha M.ins T.cl_Machine T.na_Machine_firsts (mF_firsts ..)
theorem ev_lasts (T:Txt K mg t) (ha:Ev ta σ H (.ref a)) (M:MachAt t.c_Machine H a m dx lf ll lh ps):Ev (tFld K ta "lasts") σ H (.ref ll):=ev_fld ha M.ins T.cl_Machine T.na_Machine_lasts (mF_lasts ..)
theorem ev_hands (T:Txt K mg t) (ha:Ev ta σ H (.ref a)) (M:MachAt t.c_Machine H a m dx lf ll lh ps):Ev (tFld K ta "hands") σ H (.ref lh):=ev_fld ha M.ins T.cl_Machine T.na_Machine_hands (mF_hands ..)
end
theorem list_all_range (w:List Nat) (q:Nat → Bool):((List.range w.length).map fun i=>q (w.getD i 0)).all id = w.all q:=by
 have:((List.range w.length).map fun i=>q (w.getD i 0)) = w.map q:=List.ext_getElem (by simp) fun i h1 h2=>by
  have hi:i < w.length:=by simpa using h2
  rw [List.getElem_map,List.getElem_map,List.getElem_range,Wm.getD_lt hi]
 rw [this,List.all_map]
 rfl
noncomputable def sp_is_word (t:Adr):Sp:=SpV fun vs H r=>∃ (a:Addr) (m:Wm.PM) (S:List Addr) (p:Addr) (w:List Nat),vs = [.ref a,.ref p] ∧ Mach t.c_Machine H a m S ∧ H p = some (.lst (nums w)) ∧ w.length ≤ 13000 ∧ r = .bl (w.all fun x=>decide (x < m.k))
theorem ok_is_word (T:Txt K mg t):FnOk P w K mg base CX0 4 t.f_is_word t.d_is_word ["machine","word"] (sp_is_word t):=by
 refine T.F_is_word.ok sc_is_word (fun vs H Q E h=>?_) (fun cdv A outer s H vs Q E hr h=>?_)
 ·obtain ⟨_,⟨_,_,_,_,_,rfl,_⟩,_⟩:=h
  rfl
 ·obtain ⟨_,⟨a,m,S,p,w,rfl,M,hp,hl,rfl⟩,k⟩:=h
  obtain ⟨dx,lf,ll,lh,ps,MA,hS⟩:=id M
  refine ⟨_,(pss_one (ps_ret (pe_and (pe_cmpR op_le (pe_callB call_len_seq (by rfl) T.b_len PySem.boot_len (pa_cons (pv 1) pa_nil)) (pe_glob (v:=.int 65536) rfl T.m_MOST_NUMBERS ⟨_,rfl⟩) (nomark _)) (pe_one (pe_callB (call_all rfl) (by rfl) T.b_all PyProof.Rows.boot_all (pa_cons (pe_lc (own:=[("a",2)]) rfl sc_is_word.nd (pi_list (pv 1)) (show BlkOk ["machine","word","a"] (defScope st_is_word) _ [("a",2)] from ⟨rfl,by decide +kernel,by decide +kernel,by decide +kernel,by decide +kernel⟩) (fun _ _ _ _ _=>(pg_name (i:=2) sc_is_word.nd rfl (Or.inl rfl))) (fun _ _ _ _ _=>pts_nil) (fun _ _ _ _ _=>(pe_meth (pv 0) T.cl_Machine T.me_Machine_has_letter (ok_Machine_has_letter T) (hr.mono (by decide)) (T.F_Machine_has_letter.binds b_Machine_has_letter) .nil pass0 (pa_cons (pv 2) pa_nil)))) pa_nil)))))),?_⟩
  refine st_ret (Ev.eq (ev_and (b:=true) (Ev.eq (ev_op0 (g:=fun i j=>V.bl (decide (i ≤ j))) (i:=((nums w).length:Int)) (j:=65536) (ev_len (K:=K) (p:=p) (eva_1 (ev_var rfl)) (SqL.of hp)) ev_c) (congrArg V.bl (decide_eq_true (by rw [nums_len]; omega)))) fun _ =>
   ev_allL (K:=K) (bs:=(List.range w.length).map fun i=>decide (w.getD i 0 < m.k)) (EvL.eq (evl_in (K:=K) (p:=p) (xs:=nums w) (g:=fun i=>.bl (decide (w.getD i 0 < m.k))) (ev_var rfl) (SqL.of hp) (by rw [nums_len]; omega) (fun _=>rfl) fun i x hx=>?_) ?_)) ?_) (Same.refl H) k
  ·obtain ⟨hi,rfl⟩:=nums_at hx
   refine ev_methR (ev_var (i:=0) rfl) MA.ins (mF_no _ _ _ _ _ (by decide +kernel) (by decide +kernel) (by decide +kernel) (by decide +kernel) (by decide +kernel)) (evap_v (ev_var rfl) evap_nil) fun vs H' s' h R kk=>?_
   obtain ⟨us,rfl,rfl⟩:=h
   refine ⟨a,m,S,_,rfl,M.same s',?_⟩
   have e:decide (0 ≤ ((w.getD i 0:Nat):Int) ∧ ((w.getD i 0:Nat):Int) < ((m.k:Nat):Int)) = decide (w.getD i 0 < m.k):=by
    by_cases h:w.getD i 0 < m.k
    ·rw [decide_eq_true h]; exact decide_eq_true (by omega)
    ·rw [decide_eq_false h]; exact decide_eq_false (by omega)
   have:=kk H' (Same.refl H')
   rw [← e] at this
   exact this
  ·rw [nums_len,List.map_map]
   rfl
  ·rw [Bool.true_and,list_all_range w fun x=>decide (x < m.k)]
noncomputable def sp_handed_on (t:Adr):Sp:=SpL fun vs H xs=>∃ (am:Addr) (m:Wm.PM) (S:List Addr) (p:Addr) (v:List Nat) (a:Nat),vs = [.ref am,.ref p,.int a] ∧ Mach t.c_Machine H am m S ∧ H p = some (.lst (nums v)) ∧ v.length = m.n ∧ Wm.below v ∧ a < m.k ∧ m.n ≤ 1000 ∧ xs = nums (Rc64.step m.mach v a)
theorem ok_handed_on (T:Txt K mg t):FnOk P w K mg base CX0 3 t.f_handed_on t.d_handed_on ["machine","held","a"] (sp_handed_on t):=by
 refine T.F_handed_on.ok sc_handed_on (fun vs H Q E h=>?_) (fun cdv A outer s H vs Q E hr h=>?_)
 ·obtain ⟨_,⟨_,_,_,_,_,_,rfl,_⟩,_⟩:=h
  rfl
 ·obtain ⟨_,⟨am,m,S,p,v,a,rfl,M,hp,hv,hb,ha,hn,rfl⟩,k⟩:=h
  obtain ⟨dx,lf,ll,lh,ps,MA,hS⟩:=id M
  obtain ⟨q,hq,hq1,hq2⟩:=MA.sq ha
  refine ⟨_,(pss_one (ps_ret (pe_call (ok_sum_of_multiples T) (hr.mono (by decide)) rfl T.m_sum_of_multiples T.F_sum_of_multiples.kp (T.F_sum_of_multiples.binds b_sum_of_multiples) .nil pass0 (pa_cons (pv 1) (pa_cons (pe_ix ix_list (pe_fld (pv 0) rfl) (pv 2) (fun _ _=>rfl)) (pa_cons (pe_fld (pv 0) rfl) pa_nil)))))),?_⟩
  refine st_retL (evl_call (evap_v (v:=.ref p) (ev_var rfl) (evap_v (v:=.ref q.1) (ev_ix (K:=K) (ev_hands T (ev_var rfl) MA) (ev_var rfl) (SqL.of MA.hnd) (at_of (j:=a) rfl (by rw [List.getElem?_map,hq]; rfl))) (evap_v (ev_states T (ev_var rfl) MA) evap_nil))) fun vs H' s' h=>?_) (Same.refl H) k
  obtain ⟨us,rfl,us',rfl,us'',rfl,rfl⟩:=h
  refine ⟨p,q.1,q.2,v,m.h.getD a [],m.n,rfl,s' _ _ hp,s' _ _ hq1,hq2.same s',by rw [hv,MA.ok.sqlen ha],fun i hi=>MA.ok.rowlen ha (by rw [← MA.ok.sqlen ha]; exact hi),hb,hn,by omega,?_⟩
  rw [Wm.handed_eq MA.ok hv ha]
noncomputable def sp_worth_of_held (t:Adr):Sp:=SpV fun vs H r=>∃ (am:Addr) (m:Wm.PM) (S:List Addr) (p:Addr) (v:List Nat),vs = [.ref am,.ref p] ∧ Mach t.c_Machine H am m S ∧ H p = some (.lst (nums v)) ∧ v.length = m.n ∧ Wm.below v ∧ m.n ≤ 1000 ∧ r = .int (Wm.dotR v m.l:Nat)
theorem ok_worth_of_held (T:Txt K mg t):FnOk P w K mg base CX0 3 t.f_worth_of_held t.d_worth_of_held ["machine","held"] (sp_worth_of_held t):=by
 refine T.F_worth_of_held.ok sc_worth_of_held (fun vs H Q E h=>?_) (fun cdv A outer s H vs Q E hr h=>?_)
 ·obtain ⟨_,⟨_,_,_,_,_,rfl,_⟩,_⟩:=h
  rfl
 ·obtain ⟨_,⟨am,m,S,p,v,rfl,M,hp,hv,hb,hn,rfl⟩,k⟩:=h
  obtain ⟨dx,lf,ll,lh,ps,MA,hS⟩:=id M
  refine ⟨_,(pss_one (ps_ret (pe_call (ok_sum_of_products T) (hr.mono (by decide)) rfl T.m_sum_of_products T.F_sum_of_products.kp (T.F_sum_of_products.binds b_sum_of_products) .nil pass0 (pa_cons (pv 1) (pa_cons (pe_fld (pv 0) rfl) pa_nil))))),?_⟩
  refine st_ret (ev_call (evap_v (v:=.ref p) (ev_var rfl) (evap_v (ev_lasts T (ev_var rfl) MA) evap_nil)) fun vs H' s' h=>?_) (Same.refl H) k
  obtain ⟨us,rfl,us',rfl,rfl⟩:=h
  exact ⟨p,ll,v,m.l,rfl,s' _ _ hp,s' _ _ MA.lst,by rw [hv,MA.ok.ll],by omega,hb,rfl⟩
noncomputable def sp_worth_of (t:Adr):Sp:=SpV fun vs H r=>∃ (am:Addr) (m:Wm.PM) (S:List Addr) (p:Addr) (w:List Nat),vs = [.ref am,.ref p] ∧ Mach t.c_Machine H am m S ∧ H p = some (.lst (nums w)) ∧ Wm.lets m.k w ∧ m.n ≤ 1000 ∧ r = .int (Rc64.worth m.mach w:Nat)
theorem ok_worth_of (T:Txt K mg t):FnOk P w K mg base CX0 5 t.f_worth_of t.d_worth_of ["machine","word"] (sp_worth_of t):=by
 refine T.F_worth_of.ok sc_worth_of (fun vs H Q E h=>?_) (fun cdv A outer s H vs Q E hr h=>?_)
 ·obtain ⟨_,⟨_,_,_,_,_,rfl,_⟩,_⟩:=h
  rfl
 ·obtain ⟨_,⟨am,m,S,p,w,rfl,M,hp,hlw,hn,rfl⟩,k⟩:=h
  obtain ⟨dx,lf,ll,lh,ps,MA,hS⟩:=id M
  refine ⟨_,(pss_cons (ps_set (i:=2) sc_worth_of.nd rfl (Or.inl rfl) (pe_fld (pv 0) rfl))
   (pss_cons (ps_for PassesOwn.never rfl (pi_list (pv 1)) (pg_name (i:=3) sc_worth_of.nd rfl (Or.inl rfl)) (pss_one (ps_set (i:=2) sc_worth_of.nd rfl (Or.inl rfl) (pe_call (ok_handed_on T) (hr.mono (by decide)) rfl T.m_handed_on T.F_handed_on.kp (T.F_handed_on.binds b_handed_on) .nil pass0 (pa_cons (pv 0) (pa_cons (pv 2) (pa_cons (pv 3) pa_nil)))))))
   (pss_one (ps_ret (pe_call (ok_worth_of_held T) (hr.mono (by decide)) rfl T.m_worth_of_held T.F_worth_of_held.kp (T.F_worth_of_held.binds b_worth_of_held) .nil pass0 (pa_cons (pv 0) (pa_cons (pv 2) pa_nil))))))),?_⟩
  refine st_set (ev_firsts T (ev_var rfl) MA) (Same.refl H) fun H1 s1=>?_
  refine st_forL (v:=.ref p) (ev_var rfl) (Same.refl H1) fun H2 s2=>⟨p,rfl,⟨nums w,SqL.of (s2 _ _ (s1 _ _ hp))⟩,?_⟩
  have fl:∀ i,((w.take i).foldl (Rc64.step m.mach) m.f).length = m.n:=fun i=>Wm.fold_len m.mach _ _ MA.ok.fl
  have fb:∀ i,Wm.below ((w.take i).foldl (Rc64.step m.mach) m.f):=fun i=>Wm.fold_below m.mach _ _ MA.ok.fb
  refine for_list (K:=K) (a:=p) (xs:=nums w) (fun i σ H'=>Same H H' ∧ ∃ (q:Addr) (v3:Option V),σ = [some (.ref am),some (.ref p),some (.ref q),v3] ∧ H' q = some (.lst (nums ((w.take i).foldl (Rc64.step m.mach) m.f)))) ⟨s1.trans s2,lf,none,rfl,s2 _ _ (s1 _ _ MA.fst)⟩ (fun i σ H' _ ⟨s',_⟩=>SqL.of (s' _ _ hp)) ?_ ?_
  ·rintro i x σ H3 hx ⟨s3,q,v3,rfl,hq⟩
   obtain ⟨hi,rfl⟩:=nums_at hx
   refine st_setL (xs:=nums (Rc64.step m.mach ((w.take i).foldl (Rc64.step m.mach) m.f) (w.getD i 0))) (evl_call (evap_v (v:=.ref am) (ev_var rfl) (evap_v (v:=.ref q) (ev_var rfl) (evap_v (ev_var rfl) evap_nil))) fun vs H' s' h=>?_) (Same.refl H3) fun H4 p4 s4 _ hl4=>⟨s3.trans s4,p4,_,rfl,?_⟩
   ·obtain ⟨us,rfl,us',rfl,us'',rfl,rfl⟩:=h
    exact ⟨am,m,S,q,_,w.getD i 0,rfl,M.same (s3.trans s'),s' _ _ hq,fl i,fb i,hlw _ (by rw [Wm.getD_lt hi]; exact List.getElem_mem hi),hn,rfl⟩
   ·rw [List.take_succ,List.getElem?_eq_getElem hi,List.foldl_append]
    rw [Wm.getD_lt hi] at hl4
    exact hl4
  ·rintro σ H3 ⟨s3,q,v3,rfl,hq⟩
   dsimp only
   rw [nums_len,List.take_length] at hq
   have e:=Wm.worth_eq (m:=m) w (by have:=fl w.length; rwa [List.take_length] at this)
   refine st_ret (ev_call (evap_v (v:=.ref am) (ev_var rfl) (evap_v (v:=.ref q) (ev_var rfl) evap_nil)) fun vs H' s' h=>?_) (Same.refl H3) fun H4 s4=>k H4 (s3.trans s4)
   obtain ⟨us,rfl,us',rfl,rfl⟩:=h
   have f1:=fl w.length
   have f2:=fb w.length
   rw [List.take_length] at f1 f2
   exact ⟨am,m,S,q,_,rfl,M.same (s3.trans s'),s' _ _ hq,f1,f2,hn,by rw [e]⟩
end
end Wp
namespace Wp
open PySem PySem.Spec PyProof.Rows L2
open PySem.W (Codec)
section
variable {P:Program} {w:World} {K:PySem.W.Frag} {mg:Str → Option Value} {base:Heap} {t:Adr}
noncomputable def sp_is_kind:Sp:=SpV fun vs _ r=>∃ x:Int,vs = [.int x] ∧ r = .bl (decide (0 ≤ x ∧ x ≤ 3))
theorem ok_is_kind (T:Txt K mg t):FnOk P w K mg base CX0 1 t.f_is_kind t.d_is_kind ["kind"] sp_is_kind:=by
 refine T.F_is_kind.ok sc_is_kind (fun vs H Q E h=>?_) (fun cdv A outer s H vs Q E hr h=>?_)
 ·obtain ⟨_,⟨_,rfl,_⟩,_⟩:=h
  rfl
 ·obtain ⟨_,⟨x,rfl,rfl⟩,k⟩:=h
  refine ⟨_,(pss_one (ps_ret (pe_chain op_le op_le (pe_glob (v:=.int 0) rfl T.m_ADDED ⟨_,rfl⟩) (pv 0) (pe_glob (v:=.int 3) rfl T.m_TURNED ⟨_,rfl⟩)))),?_⟩
  refine st_ret (Ev.eq (ev_chain (g:=fun i j=>decide (i ≤ j)) (g':=fun i j=>decide (i ≤ j)) (x:=0) (y:=x) (z:=3) ev_c (ev_var rfl) ev_c) (congrArg V.bl ?_)) (Same.refl H) k
  by_cases h0:0 ≤ x <;> by_cases h1:x ≤ 3 <;> simp [h0,h1]
noncomputable def statesOf (kd:Int) (m o:Wm.PM):Nat:=if kd = 1 then m.n * o.n else if kd = 3 then m.n else m.n + o.n
noncomputable def sp_states_made (t:Adr):Sp:=SpV fun vs H r=>∃ (kd:Int) (a b:Addr) (m o:Wm.PM) (S S':List Addr),vs = [.int kd,.ref a,.ref b] ∧ Mach t.c_Machine H a m S ∧ Mach t.c_Machine H b o S' ∧ m.n ≤ 1000 ∧ r = .int (statesOf kd m o:Nat)
theorem ok_states_made (T:Txt K mg t):FnOk P w K mg base CX0 1 t.f_states_made t.d_states_made ["kind","one","other"] (sp_states_made t):=by
 refine T.F_states_made.ok sc_states_made (fun vs H Q E h=>?_) (fun cdv A outer s H vs Q E hr h=>?_)
 ·obtain ⟨_,⟨_,_,_,_,_,_,_,rfl,_⟩,_⟩:=h
  rfl
 ·obtain ⟨_,⟨kd,a,b,m,o,S,S',rfl,⟨dx,lf,ll,lh,ps,MA,_⟩,⟨dx',lf',ll',lh',ps',MB,_⟩,hn,rfl⟩,k⟩:=h
  refine ⟨_,(pss_cons (ps_if (pt_cmpR op_eq (pv 0) (pe_glob (v:=.int 1) rfl T.m_MULTIPLIED ⟨_,rfl⟩) (nomark _)) (pss_one (ps_ret (pe_op op_mul (pe_fld (pv 1) rfl) (pe_fld (pv 2) rfl)))) pss_nil)
   (pss_cons (ps_if (pt_cmpR op_eq (pv 0) (pe_glob (v:=.int 3) rfl T.m_TURNED ⟨_,rfl⟩) (nomark _)) (pss_one (ps_ret (pe_fld (pv 1) rfl))) pss_nil)
   (pss_one (ps_ret (pe_op op_add (pe_fld (pv 1) rfl) (pe_fld (pv 2) rfl)))))),?_⟩
  refine (evt_test (ev_eqI (i:=kd) (j:=1) (ev_var rfl) ev_c)) H (Same.refl H) _ fun H1 s1=>?_
  unfold statesOf at k
  by_cases h1:kd = 1
  ·refine itY (decide_eq_true h1) ?_
   rw [if_pos h1] at k
   exact st_ret (Ev.eq (ev_mul (ev_states T (ev_var rfl) (MA.same s1)) (ev_states T (ev_var rfl) (MB.same s1)) (cmul_nat (by omega))) (congrArg V.int (by rw [Int.natCast_mul]))) (Same.refl H1) fun H2 s2=>k H2 (s1.trans s2)
  refine itN (decide_eq_false h1) ?_
  rw [if_neg h1] at k
  refine (evt_test (ev_eqI (i:=kd) (j:=3) (ev_var rfl) ev_c)) H1 (Same.refl H1) _ fun H2 s2=>?_
  have s12:=s1.trans s2
  by_cases h3:kd = 3
  ·refine itY (decide_eq_true h3) ?_
   rw [if_pos h3] at k
   exact st_ret (ev_states T (ev_var rfl) (MA.same s12)) (Same.refl H2) fun H3 s3=>k H3 (s12.trans s3)
  ·refine itN (decide_eq_false h3) ?_
   rw [if_neg h3] at k
   exact st_ret (Ev.eq (ev_add (ev_states T (ev_var rfl) (MA.same s12)) (ev_states T (ev_var rfl) (MB.same s12))) (congrArg V.int (by rw [Int.natCast_add]))) (Same.refl H2) fun H3 s3=>k H3 (s12.trans s3)
theorem nums_app (u v:List Nat):nums u ++ nums v = nums (u ++ v):=by unfold nums; rw [List.map_append]
noncomputable def sp_side (K:PySem.W.Frag):Sp:=SpM fun vs H rows=>∃ (p q r:Addr) (as bs cs:List Addr) (sq br ot:List (List Nat)),vs = [.ref p,.ref q,.ref r] ∧ H p = some (.lst (as.map V.ref)) ∧ H q = some (.lst (bs.map V.ref)) ∧ H r = some (.lst (cs.map V.ref)) ∧ Rows H as sq ∧ Rows H bs br ∧ Rows H cs ot ∧
 sq.length = br.length ∧ sq.length ≤ 1000 ∧ ot.length ≤ 1000 ∧ (∀ i,i < sq.length → (sq.getD i []).length ≤ 1000) ∧ (∀ i,i < br.length → (br.getD i []).length ≤ 1000) ∧ (∀ i,i < ot.length → (ot.getD i []).length ≤ 1000) ∧ rows = Wm.sideR sq br ot
theorem ok_side_by_side (T:Txt K mg t):FnOk P w K mg base CX0 1 t.f_side_by_side t.d_side_by_side ["square","bridge","other"] (sp_side K):=by
 refine T.F_side_by_side.ok sc_side_by_side (fun vs H Q E h=>?_) (fun cdv A outer s H vs Q E hr h=>?_)
 ·obtain ⟨_,⟨_,_,_,_,_,_,_,_,_,rfl,_⟩,_⟩:=h
  rfl
 ·obtain ⟨_,⟨p,q,r,as,bs,cs,sq,br,ot,rfl,hp,hq,hr',hA,hB,hC,hl,hz1,hz2,hz3,hz4,hz5,rfl⟩,k⟩:=h
  have hsz:sizeLine = 16777216:=sizeLine_eq
  have la:=hA.len
  have lb:=hB.len
  have lc:=hC.len
  refine ⟨_,(pss_cons (ps_setLc (i:=3) (own:=[("row",5),("across",6)]) rfl sc_side_by_side.nd rfl rfl (sw_true rfl rfl rfl rfl) (pi_zip rfl T.b_zip (pa_cons (pv 0) (pa_cons (pv 1) pa_nil))) (show BlkOk ["square","bridge","other","upper","lower","row","across"] (defScope st_side_by_side) _ [("row",5),("across",6)] from ⟨rfl,by decide +kernel,by decide +kernel,by decide +kernel,by decide +kernel⟩) (fun _ _ _ _ _=>(show PG _ _ (gTup K 2 (gCons (gName 5) (gCons (gName 6) gNil))) from pg_tup (n:=2) rfl (pgs_cons (pg_name (i:=5) sc_side_by_side.nd rfl (Or.inl rfl) (hf:=Or.inr rfl)) (pgs_cons (pg_name (i:=6) sc_side_by_side.nd rfl (Or.inl rfl) (hf:=Or.inr rfl)) pgs_nil)))) (fun _ _ _ _ _=>pts_nil) (fun _ _ _ _ _=>(pe_op op_cat (pv 5) (pv 6))))
   (pss_cons (ps_setLc (i:=4) (own:=[("row",5)]) rfl sc_side_by_side.nd rfl rfl (sw_true rfl rfl rfl rfl) (pi_list (pv 2)) (show BlkOk ["square","bridge","other","upper","lower","row","across"] (defScope st_side_by_side) _ [("row",5)] from ⟨rfl,by decide +kernel,by decide +kernel,by decide +kernel,by decide +kernel⟩) (fun _ _ _ _ _=>(pg_name (i:=5) sc_side_by_side.nd rfl (Or.inl rfl))) (fun _ _ _ _ _=>pts_nil) (fun _ _ _ _ _=>(pe_op op_cat (pe_op op_rep (pe_lst (pa_cons pe_int pa_nil)) (pe_callB (show CallR _ _ (fun xs H Q=>∃ p ys,xs = [V.ref p] ∧ (SqL K H p ys ∨ SqT K H p ys) ∧ Q (V.int ys.length) H) from call_len_seq) (by rfl) T.b_len PySem.boot_len (pa_cons (pv 0) pa_nil))) (pv 5))))
   (pss_one (ps_ret (pe_op op_cat (pv 3) (pv 4)))))),?_⟩
  refine st_setM (evm_zip (K:=K) (p:=p) (q:=q) (xs:=as.map V.ref) (ys:=bs.map V.ref) (n:=sq.length) (g:=fun i=>sq.getD i [] ++ br.getD i []) (eva_2 (ev_var rfl) (ev_var rfl)) (SqL.of hp) (SqL.of hq) (by rw [List.length_map]; omega) (by rw [List.length_map]; omega) (.inl (by rw [List.length_map]; omega)) (by omega) (fun _ _=>rfl) fun i x y hx hy=>?_) (Same.refl H) fun H1 p1 as1 s1 hp1 hR1 nd1 fr1=>?_
  ·obtain ⟨a,rfl,hi,_,ha⟩:=hA.at hx
   obtain ⟨b,rfl,hj,_,hb⟩:=hB.at hy
   exact (evl_cat (ev_var rfl) (ev_var rfl) ha hb (by rw [nums_len,nums_len]; have:=hz3 i hi; have:=hz4 i hj; omega)).eq (nums_app _ _)
  ·refine st_setM (evm_in (K:=K) (p:=r) (xs:=cs.map V.ref) (g:=fun i=>List.replicate sq.length 0 ++ ot.getD i []) (ev_var rfl) (SqL.of (s1 _ _ hr')) (by rw [List.length_map]; omega) (fun _=>rfl) fun i x hx=>?_) (Same.refl H1) fun H2 p2 as2 s2 hp2 hR2 nd2 fr2=>?_
   ·obtain ⟨a,rfl,hi,_,ha⟩:=(hC.same s1).at hx
    have hz5':=hz5 i hi
    refine (evl_catL (evl_zeros (n:=sq.length) (Ev.eq (ev_len (K:=K) (p:=p) (xs:=as.map V.ref) (eva_1 (ev_var rfl)) (SqL.of (s1 _ _ hp))) (by rw [List.length_map,la])) (by omega)) (ev_var rfl) ha ?_).eq (nums_app _ _)
    rw [nums_len,nums_len,List.length_replicate]
    omega
   ·have l1:=hR1.len
    have l2:=hR2.len
    rw [List.length_map,List.length_range] at l1 l2
    rw [List.length_map] at l2 hR2
    rw [lc] at l2 hR2
    refine st_retL (evl_cat (l:=p1) (b:=p2) (xs:=as1.map V.ref) (ys:=as2.map V.ref) (ev_var rfl) (ev_var rfl) (s2 _ _ hp1) hp2 (by rw [List.length_map,List.length_map]; omega)) (Same.refl H2) fun H3 p5 s3 hp50 hp5=>?_
    have a1:Rows H2 as1 _:=hR1.same s2
    refine k _ p5 (as1 ++ as2) ((s1.trans s2).trans s3) (by rw [hp5,List.map_append]) ((a1.same s3).append (hR2.same s3)) ?_ fun b hb=>?_
    ·refine List.nodup_cons.2 ⟨fun z=>?_,List.nodup_append.2 ⟨(List.nodup_cons.1 nd1).2,(List.nodup_cons.1 nd2).2,fun x hx y hy e=>?_⟩⟩
     ·rcases List.mem_append.1 z with z | z
      ·exact a1.none p5 z hp50
      ·exact hR2.none p5 z hp50
     ·subst e
      exact hR1.none x hx (fr2 x (List.mem_cons_of_mem _ hy))
    ·rcases List.mem_cons.1 hb with e | hb
     ·rw [e]; exact (s1.trans s2).free hp50
     ·rcases List.mem_append.1 hb with hb | hb
      ·exact fr1 b (List.mem_cons_of_mem _ hb)
      ·exact s1.free (fr2 b (List.mem_cons_of_mem _ hb))
noncomputable def sp_two (t:Adr) (g:Wm.PM → Wm.PM → Wm.PM):Sp:=SpMach t.c_Machine fun vs H q=>∃ (a b:Addr) (m o:Wm.PM) (S S':List Addr),vs = [.ref a,.ref b] ∧ Mach t.c_Machine H a m S ∧ Mach t.c_Machine H b o S' ∧ m.k = o.k ∧ m.n ≤ 100 ∧ o.n ≤ 100 ∧ m.k ≤ 100 ∧ q = g m o
theorem row_le {m:Wm.PM} (ok:m.Ok) {a:Nat} (ha:a < m.k) (hn:m.n ≤ 100):∀ i,i < (m.h.getD a []).length → ((m.h.getD a []).getD i []).length ≤ 1000:=fun i hi=>by
 rw [ok.sqlen ha] at hi
 rw [ok.rowlen ha hi]; omega
theorem ok_added (T:Txt K mg t):FnOk P w K mg base CX0 5 t.f_added t.d_added ["one","other"] (sp_two t Wm.addedP):=by
 refine T.F_added.ok sc_added (fun vs H Q E h=>?_) (fun cdv A outer s H vs Q E hr h=>?_)
 ·obtain ⟨_,⟨_,_,_,_,_,_,rfl,_⟩,_⟩:=h
  rfl
 ·obtain ⟨_,⟨a,b,m,o,S,S',rfl,⟨dx,lf,ll,lh,ps,MA,_⟩,⟨dx',lf',ll',lh',ps',MB,_⟩,hk,hm,ho,hkk,rfl⟩,k⟩:=h
  have hsz:sizeLine = 16777216:=sizeLine_eq
  have l1:=MA.sqs.len
  have l2:=MB.sqs.len
  rw [MA.ok.hl] at l1
  rw [MB.ok.hl] at l2
  refine ⟨_,(pss_cons (ps_set (i:=2) sc_added.nd rfl (Or.inr rfl) (pe_call (ok_rows_of_zeros T) (hr.mono (by decide)) rfl T.m_rows_of_zeros T.F_rows_of_zeros.kp (T.F_rows_of_zeros.binds b_rows_of_zeros) .nil pass0 (pa_cons (pe_fld (pv 0) rfl) (pa_cons (pe_fld (pv 1) rfl) pa_nil))))
   (pss_cons (ps_setLc (i:=3) (own:=[("square",4),("its",5)]) rfl sc_added.nd rfl rfl (sw_true rfl rfl rfl rfl) (pi_zip rfl T.b_zip (pa_cons (pe_fld (pv 0) rfl) (pa_cons (pe_fld (pv 1) rfl) pa_nil))) (show BlkOk ["one","other","nothing","hands","square","its"] (defScope st_added) _ [("square",4),("its",5)] from ⟨rfl,by decide +kernel,by decide +kernel,by decide +kernel,by decide +kernel⟩) (fun _ _ _ _ _=>(show PG _ _ (gTup K 2 (gCons (gName 4) (gCons (gName 5) gNil))) from pg_tup (n:=2) rfl (pgs_cons (pg_name (i:=4) sc_added.nd rfl (Or.inl rfl) (hf:=Or.inr rfl)) (pgs_cons (pg_name (i:=5) sc_added.nd rfl (Or.inl rfl) (hf:=Or.inr rfl)) pgs_nil)))) (fun _ _ _ _ _=>pts_nil) (fun _ _ _ _ _=>(pe_call (ok_side_by_side T) (hr.mono (by decide)) rfl T.m_side_by_side T.F_side_by_side.kp (T.F_side_by_side.binds b_side_by_side) .nil pass0 (pa_cons (pv 4) (pa_cons (pv 2) (pa_cons (pv 5) pa_nil))))))
   (pss_one (ps_ret (pe_make T.mk_Machine (ok_Machine_init T) (hr.mono (by decide)) rfl T.m_Machine (T.F_Machine_init.binds b_Machine_init) .nil pass0 (pa_cons (pe_op op_cat (pe_fld (pv 0) rfl) (pe_fld (pv 1) rfl)) (pa_cons (pe_op op_cat (pe_fld (pv 0) rfl) (pe_fld (pv 1) rfl)) (pa_cons (pv 3) pa_nil)))))))),?_⟩
  refine st_setM (rows:=Wm.zerosR m.n o.n) (evm_call (evap_v (ev_states T (ev_var rfl) MA) (evap_v (ev_states T (ev_var rfl) MB) evap_nil)) fun vs H' s' h=>?_) (Same.refl H) fun H1 p1 as1 s1 hp1 hR1 nd1 fr1=>?_
  ·obtain ⟨us,rfl,us',rfl,rfl⟩:=h
   exact ⟨m.n,o.n,rfl,by omega,by omega,rfl⟩
  ·have MA1:=MA.same s1
   have MB1:=MB.same s1
   refine st_setS (evs_zip (K:=K) (p:=lh) (q:=lh') (n:=m.k) (g:=fun a=>Wm.sideR (m.h.getD a []) (Wm.zerosR m.n o.n) (o.h.getD a [])) (eva_2 (ev_hands T (ev_var rfl) MA1) (ev_hands T (ev_var rfl) MB1)) (SqL.of MA1.hnd) (SqL.of MB1.hnd) (by rw [List.length_map]; omega) (by rw [List.length_map]; omega) (.inl (by rw [List.length_map]; omega)) (by omega) (fun _ _=>rfl) fun i x y hx hy=>?_) (Same.refl H1) fun H2 l2 ps2 s2 hl2 hq2 nd2 fr2=>?_
   ·obtain ⟨pa,rfl,hi,_,hpa,hra⟩:=MA1.sqs.at hx
    obtain ⟨pb,rfl,hj,_,hpb,hrb⟩:=MB1.sqs.at hy
    rw [MA.ok.hl] at hi
    have hi':i < o.k:=hk ▸ hi
    refine evm_call (evap_v (v:=.ref pa.1) (ev_var rfl) (evap_v (v:=.ref p1) (ev_var rfl) (evap_v (v:=.ref pb.1) (ev_var rfl) evap_nil))) fun vs H' s' h=>?_
    obtain ⟨us,rfl,us',rfl,us'',rfl,rfl⟩:=h
    refine ⟨pa.1,p1,pb.1,pa.2,as1,pb.2,_,_,_,rfl,s' _ _ hpa,s' _ _ hp1,s' _ _ hpb,hra.same s',hR1.same s',hrb.same s',?_,?_,?_,row_le MA.ok hi hm,?_,row_le MB.ok hi' ho,rfl⟩
    ·rw [MA.ok.sqlen hi]; simp [Wm.zerosR]
    ·rw [MA.ok.sqlen hi]; omega
    ·rw [MB.ok.sqlen hi']; omega
    ·intro j hj
     have hj:j < m.n:=by simpa [Wm.zerosR] using hj
     rw [Wm.zerosR_get hj,List.length_replicate]; omega
   ·have MA2:=MA1.same s2
    have MB2:=MB1.same s2
    exact mk_machine (m:=Wm.addedP m o) (s1.trans s2) (Wm.added_ok MA.ok MB.ok hk) hl2 hq2 (args_LL ((evl_cat (ev_firsts T (ev_var rfl) MA2) (ev_firsts T (ev_var rfl) MB2) MA2.fst MB2.fst (by rw [nums_len,nums_len,MA.ok.fl,MB.ok.fl]; omega)).eq (nums_app _ _)) ((evl_cat (ev_lasts T (ev_var rfl) MA2) (ev_lasts T (ev_var rfl) MB2) MA2.lst MB2.lst (by rw [nums_len,nums_len,MA.ok.ll,MB.ok.ll]; omega)).eq (nums_app _ _)) (ev_var rfl) (s1.trans s2) nd2 (fun b hb=>s1.free (fr2 b hb)) (sq_some hl2 hq2)) k
end
end Wp
namespace Wp
open PySem PySem.Spec PyProof.Rows L2
open PySem.W (Codec)
section
variable {P:Program} {w:World} {K:PySem.W.Frag} {mg:Str → Option Value} {base:Heap} {t:Adr}
noncomputable def sp_products:Sp:=SpL fun vs H xs=>∃ (p q:Addr) (u v:List Nat),vs = [.ref p,.ref q] ∧ H p = some (.lst (nums u)) ∧ H q = some (.lst (nums v)) ∧ u.length ≤ 1000 ∧ v.length ≤ 1000 ∧ Wm.below v ∧ xs = nums (Wm.prodR u v)
theorem prod_pre_len (u v:List Nat) (i:Nat):((List.range i).flatMap fun i=>Wm.mulR (u.getD i 0) v).length = i * v.length:=by
 rw [Wm.flat_len (c:=v.length) _ fun x _=>Wm.mulR_len ..,List.length_range]
theorem ok_products (T:Txt K mg t):FnOk P w K mg base CX0 3 t.f_products t.d_products ["row","other"] sp_products:=by
 refine T.F_products.ok sc_products (fun vs H Q E h=>?_) (fun cdv A outer s H vs Q E hr h=>?_)
 ·obtain ⟨_,⟨_,_,_,_,rfl,_⟩,_⟩:=h
  rfl
 ·obtain ⟨_,⟨p,q,u,v,rfl,hp,hq,hu,hv,hb,rfl⟩,k⟩:=h
  have hsz:sizeLine = 16777216:=sizeLine_eq
  refine ⟨_,(pss_cons (ps_set (i:=2) sc_products.nd rfl (Or.inl rfl) (pe_lst pa_nil))
   (pss_cons (ps_for PassesOwn.never rfl (pi_list (pv 0)) (pg_name (i:=3) sc_products.nd rfl (Or.inl rfl)) (pss_one (ps_expr (pe_bm PySem.F.plainAttrs_list PySem.F.slot_list_extend PySem.F.type_list_extend mt_extend (pv 2) (pa_cons (pe_call (ok_multiple T) (hr.mono (by decide)) rfl T.m_multiple T.F_multiple.kp (T.F_multiple.binds b_multiple) .nil pass0 (pa_cons (pv 3) (pa_cons (pv 1) pa_nil))) pa_nil)))))
   (pss_one (ps_ret (pv 2))))),?_⟩
  refine st_setL (xs:=[]) (evl_lst eva_nil (Nat.zero_le _)) (Same.refl H) fun H1 l s1 hl0 hl=>?_
  refine st_forL (v:=.ref p) (ev_var rfl) (Same.refl H1) fun H2 s2=>⟨p,rfl,⟨nums u,SqL.of (s2 _ _ (s1 _ _ hp))⟩,?_⟩
  refine for_list (K:=K) (a:=p) (xs:=nums u) (fun i σ H'=>Same H H' ∧ (∃ (v3:Option V),σ = [some (.ref p),some (.ref q),some (.ref l),v3]) ∧ H' l = some (.lst (nums ((List.range i).flatMap fun i=>Wm.mulR (u.getD i 0) v)))) ⟨s1.trans s2,⟨none,rfl⟩,s2 _ _ hl⟩ (fun i σ H' _ ⟨s',_⟩=>SqL.of (s' _ _ hp)) ?_ ?_
  ·rintro i x σ H3 hx ⟨s3,⟨v3,rfl⟩,hl3⟩
   obtain ⟨hi,rfl⟩:=nums_at hx
   refine ⟨_,rfl,.inl ⟨rfl,_,SqL.of hl3⟩,?_⟩
   refine (evl_call (xs:=nums (Wm.mulR (u.getD i 0) v)) (evap_v (v:=.int ((u.getD i 0:Nat):Int)) (ev_var rfl) (evap_v (v:=.ref q) (ev_var rfl) evap_nil)) fun vs H' s' h=>?_) H3 (Same.refl H3) _ fun H4 p4 s4 hp4 hl4=>⟨l,p4,_,_,rfl,rfl,s4 _ _ hl3,hl4,?_,?_⟩
   ·obtain ⟨us,rfl,us',rfl,rfl⟩:=h
    exact ⟨_,q,v,fun j=>u.getD i 0 * v.getD j 0 % Rc64.P,rfl,(s3.trans s') _ _ hq,by omega,hb,fun j _=>Wm.int_mul_mod _ _,rfl⟩
   ·rw [nums_len,nums_len,prod_pre_len,Wm.mulR_len]
    have:i * v.length ≤ 1000 * 1000:=Nat.mul_le_mul (by omega) hv
    omega
   ·refine ⟨fun c o e=>?_,⟨_,rfl⟩,?_⟩
    ·rw [upd_ne (fun z=>by rw [z,hl0] at e; cases e)]
     exact s4 _ _ (s3 _ _ e)
    ·rw [upd_same,nums_app,List.range_succ,List.flatMap_append]
     simp
  ·rintro σ H3 ⟨s3,⟨v3,rfl⟩,hl3⟩
   rw [nums_len] at hl3
   dsimp only
   exact st_ret (v:=.ref l) (ev_var rfl) (Same.refl H3) fun H4 s4=>k H4 l (s3.trans s4) hl0 (s4 _ _ hl3)
noncomputable def sp_products_of_rows:Sp:=SpM fun vs H rows=>∃ (p q:Addr) (as bs:List Addr) (us ws:List (List Nat)),vs = [.ref p,.ref q] ∧ H p = some (.lst (as.map V.ref)) ∧ H q = some (.lst (bs.map V.ref)) ∧ Rows H as us ∧ Rows H bs ws ∧ us.length ≤ 1000 ∧ ws.length ≤ 1000 ∧ (∀ i,i < us.length → (us.getD i []).length ≤ 1000) ∧ (∀ i,i < ws.length → (ws.getD i []).length ≤ 1000 ∧ Wm.below (ws.getD i [])) ∧ rows = Wm.prodRR us ws
theorem ok_products_of_rows (T:Txt K mg t):FnOk P w K mg base CX0 6 t.f_products_of_rows t.d_products_of_rows ["rows","others"] sp_products_of_rows:=by
 refine T.F_products_of_rows.ok sc_products_of_rows (fun vs H Q E h=>?_) (fun cdv A outer s H vs Q E hr h=>?_)
 ·obtain ⟨_,⟨_,_,_,_,_,_,rfl,_⟩,_⟩:=h
  rfl
 ·obtain ⟨_,⟨p,q,as,bs,us,ws,rfl,hp,hq,hA,hB,hz1,hz2,hz3,hz4,rfl⟩,k⟩:=h
  have hsz:sizeLine = 16777216:=sizeLine_eq
  have la:=hA.len
  have lb:=hB.len
  refine ⟨_,(pss_cons (ps_set (i:=2) sc_products_of_rows.nd rfl (Or.inl rfl) (pe_lst pa_nil))
   (pss_cons (ps_for PassesOwn.never rfl (pi_list (pv 0)) (pg_name (i:=3) sc_products_of_rows.nd rfl (Or.inr rfl)) (pss_one (ps_expr (pe_bm PySem.F.plainAttrs_list PySem.F.slot_list_extend PySem.F.type_list_extend mt_extend (pv 2) (pa_cons (pe_lc (own:=[("other",4)]) rfl sc_products_of_rows.nd (pi_list (pv 1)) (show BlkOk ["rows","others","multiplied_rows","row","other"] (defScope st_products_of_rows) _ [("other",4)] from ⟨rfl,by decide +kernel,by decide +kernel,by decide +kernel,by decide +kernel⟩) (fun _ _ _ _ _=>(pg_name (i:=4) sc_products_of_rows.nd rfl (Or.inl rfl))) (fun _ _ _ _ _=>pts_nil) (fun _ _ _ _ _=>(pe_call (ok_products T) (hr.mono (by decide)) rfl T.m_products T.F_products.kp (T.F_products.binds b_products) .nil pass0 (pa_cons (pv 3) (pa_cons (pv 4) pa_nil))))) pa_nil)))))
   (pss_one (ps_ret (pv 2))))),?_⟩
  refine st_setL (xs:=[]) (evl_lst eva_nil (Nat.zero_le _)) (Same.refl H) fun H1 l s1 hl0 hl=>?_
  refine st_forL (v:=.ref p) (ev_var rfl) (Same.refl H1) fun H2 s2=>⟨p,rfl,⟨as.map V.ref,SqL.of (s2 _ _ (s1 _ _ hp))⟩,?_⟩
  refine for_list (K:=K) (a:=p) (xs:=as.map V.ref) (fun i σ H'=>Same H H' ∧ (∃ (v3:Option V),σ = [some (.ref p),some (.ref q),some (.ref l),v3,none]) ∧ ∃ cs:List Addr,H' l = some (.lst (cs.map V.ref)) ∧ Rows H' cs ((List.range i).flatMap fun i=>(List.range ws.length).map fun j=>Wm.prodR (us.getD i []) (ws.getD j [])) ∧ (l :: cs).Nodup ∧ ∀ b,b ∈ cs → H b = none)
   ⟨s1.trans s2,⟨none,rfl⟩,[],s2 _ _ hl,trivial,by simp,fun b hb=>by cases hb⟩ (fun i σ H' _ ⟨s',_⟩=>SqL.of (s' _ _ hp)) ?_ ?_
  ·rintro i x σ H3 hx ⟨s3,⟨v3,rfl⟩,cs,hl3,hR3,nd3,fr3⟩
   obtain ⟨a,rfl,hi,_,ha⟩:=(hA.same s3).at hx
   have hB3:=hB.same s3
   refine ⟨_,rfl,.inl ⟨rfl,_,SqL.of hl3⟩,?_⟩
   refine (evm_in (K:=K) (p:=q) (xs:=bs.map V.ref) (g:=fun j=>Wm.prodR (us.getD i []) (ws.getD j [])) (ev_var rfl) (SqL.of (s3 _ _ hq)) (by rw [List.length_map]; omega) (fun _=>rfl) fun j y hy=>?_) H3 (Same.refl H3) _ fun H4 p4 as4 s4 hl4 hR4 nd4 fr4=>⟨l,p4,_,_,rfl,rfl,s4 _ _ hl3,hl4,?_,?_⟩
   ·obtain ⟨b,rfl,hj,_,hb⟩:=hB3.at hy
    refine evl_call (evap_v (v:=.ref a) (ev_var rfl) (evap_v (v:=.ref b) (ev_var rfl) evap_nil)) fun vs H' s' h=>?_
    obtain ⟨us,rfl,us',rfl,rfl⟩:=h
    exact ⟨a,b,_,_,rfl,s' _ _ ha,s' _ _ hb,hz3 i hi,(hz4 j hj).1,(hz4 j hj).2,rfl⟩
   ·rw [List.length_map,List.length_map,hR3.len,hR4.len,Wm.flat_lenG (c:=ws.length) _ fun x _=>by simp]
    rw [List.length_range,List.length_map,List.length_range,List.length_map,lb]
    have:i * ws.length ≤ 1000 * 1000:=Nat.mul_le_mul (by omega) hz2
    omega
   ·have nl4:∀ b,b ∈ as4 → b ≠ l:=fun b hb z=>by
     have:=fr4 b (List.mem_cons_of_mem _ hb)
     rw [z,hl3] at this; cases this
    have nl3:∀ b,b ∈ cs → b ≠ l:=fun b hb z=>(List.nodup_cons.1 nd3).1 (z ▸ hb)
    refine ⟨fun c o e=>?_,⟨_,rfl⟩,cs ++ as4,?_,?_,?_,fun b hb=>?_⟩
    ·rw [upd_ne (fun z=>by rw [z,hl0] at e; cases e)]
     exact s4 _ _ (s3 _ _ e)
    ·rw [upd_same,List.map_append]
    ·rw [List.range_succ,List.flatMap_append]
     rw [List.length_map,lb] at hR4
     refine Rows.append ((hR3.same s4).frame fun b hb=>upd_ne (nl3 b hb)) ?_
     have:=hR4.frame (H':=upd H4 l (.lst (cs.map V.ref ++ as4.map V.ref))) fun b hb=>upd_ne (nl4 b hb)
     simpa using this
    ·refine List.nodup_cons.2 ⟨fun z=>?_,List.nodup_append.2 ⟨(List.nodup_cons.1 nd3).2,(List.nodup_cons.1 nd4).2,fun x hx y hy e=>?_⟩⟩
     ·rcases List.mem_append.1 z with z | z
      ·exact nl3 l z rfl
      ·exact nl4 l z rfl
     ·subst e
      exact hR3.none x hx (fr4 x (List.mem_cons_of_mem _ hy))
    ·rcases List.mem_append.1 hb with hb | hb
     ·exact fr3 b hb
     ·exact s3.free (fr4 b (List.mem_cons_of_mem _ hb))
  ·rintro σ H3 ⟨s3,⟨v3,rfl⟩,cs,hl3,hR3,nd3,fr3⟩
   rw [List.length_map,la] at hR3
   dsimp only
   refine st_ret (v:=.ref l) (ev_var rfl) (Same.refl H3) fun H4 s4=>k H4 l cs (s3.trans s4) (s4 _ _ hl3) (hR3.same s4) nd3 fun b hb=>?_
   rcases List.mem_cons.1 hb with e | e
   ·rw [e]; exact hl0
   ·exact fr3 b e
theorem ok_multiplied (T:Txt K mg t):FnOk P w K mg base CX0 9 t.f_multiplied t.d_multiplied ["one","other"] (sp_two t Wm.multP):=by
 refine T.F_multiplied.ok sc_multiplied (fun vs H Q E h=>?_) (fun cdv A outer s H vs Q E hr h=>?_)
 ·obtain ⟨_,⟨_,_,_,_,_,_,rfl,_⟩,_⟩:=h
  rfl
 ·obtain ⟨_,⟨a,b,m,o,S,S',rfl,⟨dx,lf,ll,lh,ps,MA,_⟩,⟨dx',lf',ll',lh',ps',MB,_⟩,hk,hm,ho,hkk,rfl⟩,k⟩:=h
  have l1:=MA.sqs.len
  have l2:=MB.sqs.len
  rw [MA.ok.hl] at l1
  rw [MB.ok.hl] at l2
  refine ⟨_,(pss_cons (ps_setLc (i:=2) (own:=[("square",3),("its",4)]) rfl sc_multiplied.nd rfl rfl (sw_true rfl rfl rfl rfl) (pi_zip rfl T.b_zip (pa_cons (pe_fld (pv 0) rfl) (pa_cons (pe_fld (pv 1) rfl) pa_nil))) (show BlkOk ["one","other","hands","square","its"] (defScope st_multiplied) _ [("square",3),("its",4)] from ⟨rfl,by decide +kernel,by decide +kernel,by decide +kernel,by decide +kernel⟩) (fun _ _ _ _ _=>(show PG _ _ (gTup K 2 (gCons (gName 3) (gCons (gName 4) gNil))) from pg_tup (n:=2) rfl (pgs_cons (pg_name (i:=3) sc_multiplied.nd rfl (Or.inl rfl) (hf:=Or.inr rfl)) (pgs_cons (pg_name (i:=4) sc_multiplied.nd rfl (Or.inl rfl) (hf:=Or.inr rfl)) pgs_nil)))) (fun _ _ _ _ _=>pts_nil) (fun _ _ _ _ _=>(pe_call (ok_products_of_rows T) (hr.mono (by decide)) rfl T.m_products_of_rows T.F_products_of_rows.kp (T.F_products_of_rows.binds b_products_of_rows) .nil pass0 (pa_cons (pv 3) (pa_cons (pv 4) pa_nil)))))
   (pss_one (ps_ret (pe_make T.mk_Machine (ok_Machine_init T) (hr.mono (by decide)) rfl T.m_Machine (T.F_Machine_init.binds b_Machine_init) .nil pass0 (pa_cons (pe_call (ok_products T) (hr.mono (by decide)) rfl T.m_products T.F_products.kp (T.F_products.binds b_products) .nil pass0 (pa_cons (pe_fld (pv 0) rfl) (pa_cons (pe_fld (pv 1) rfl) pa_nil))) (pa_cons (pe_call (ok_products T) (hr.mono (by decide)) rfl T.m_products T.F_products.kp (T.F_products.binds b_products) .nil pass0 (pa_cons (pe_fld (pv 0) rfl) (pa_cons (pe_fld (pv 1) rfl) pa_nil))) (pa_cons (pv 2) pa_nil))))))),?_⟩
  refine st_setS (evs_zip (K:=K) (p:=lh) (q:=lh') (n:=m.k) (g:=fun a=>Wm.prodRR (m.h.getD a []) (o.h.getD a [])) (eva_2 (ev_hands T (ev_var rfl) MA) (ev_hands T (ev_var rfl) MB)) (SqL.of MA.hnd) (SqL.of MB.hnd) (by rw [List.length_map]; omega) (by rw [List.length_map]; omega) (.inl (by rw [List.length_map]; omega)) (by omega) (fun _ _=>rfl) fun i x y hx hy=>?_) (Same.refl H) fun H2 l2 ps2 s2 hl2 hq2 nd2 fr2=>?_
  ·obtain ⟨pa,rfl,hi,_,hpa,hra⟩:=MA.sqs.at hx
   obtain ⟨pb,rfl,hj,_,hpb,hrb⟩:=MB.sqs.at hy
   rw [MA.ok.hl] at hi
   have hi':i < o.k:=hk ▸ hi
   refine evm_call (evap_v (v:=.ref pa.1) (ev_var rfl) (evap_v (v:=.ref pb.1) (ev_var rfl) evap_nil)) fun vs H' s' h=>?_
   obtain ⟨us,rfl,us',rfl,rfl⟩:=h
   refine ⟨pa.1,pb.1,pa.2,pb.2,_,_,rfl,s' _ _ hpa,s' _ _ hpb,hra.same s',hrb.same s',?_,?_,row_le MA.ok hi hm,fun j hj=>⟨row_le MB.ok hi' ho j hj,?_⟩,rfl⟩
   ·rw [MA.ok.sqlen hi]; omega
   ·rw [MB.ok.sqlen hi']; omega
   ·rw [MB.ok.sqlen hi'] at hj; exact MB.ok.rowbelow hi' hj
  ·have MA2:=MA.same s2
   have MB2:=MB.same s2
   refine mk_machine (m:=Wm.multP m o) s2 (Wm.mult_ok MA.ok MB.ok hk) hl2 hq2 (args_LL (evl_call (evap_v (ev_firsts T (ev_var rfl) MA2) (evap_v (ev_firsts T (ev_var rfl) MB2) evap_nil)) fun vs H' s' h=>?_) (evl_call (evap_v (ev_lasts T (ev_var rfl) MA2) (evap_v (ev_lasts T (ev_var rfl) MB2) evap_nil)) fun vs H' s' h=>?_) (ev_var rfl) s2 nd2 fr2 (sq_some hl2 hq2)) k
   ·obtain ⟨us,rfl,us',rfl,rfl⟩:=h
    exact ⟨lf,lf',m.f,o.f,rfl,s' _ _ MA2.fst,s' _ _ MB2.fst,by rw [MA.ok.fl]; omega,by rw [MB.ok.fl]; omega,MB.ok.fb,rfl⟩
   ·obtain ⟨us,rfl,us',rfl,rfl⟩:=h
    exact ⟨ll,ll',m.l,o.l,rfl,s' _ _ MA2.lst,s' _ _ MB2.lst,by rw [MA.ok.ll]; omega,by rw [MB.ok.ll]; omega,MB.ok.lb,rfl⟩
noncomputable def sp_bridge (t:Adr):Sp:=SpM fun vs H rows=>∃ (a p b:Addr) (m o:Wm.PM) (S S' as:List Addr) (sq:List (List Nat)),vs = [.ref a,.ref p,.ref b] ∧ Mach t.c_Machine H a m S ∧ Mach t.c_Machine H b o S' ∧ H p = some (.lst (as.map V.ref)) ∧ Rows H as sq ∧ (∀ i,i < sq.length → (sq.getD i []).length = m.n ∧ Wm.below (sq.getD i [])) ∧ sq.length ≤ 1000 ∧ m.n ≤ 1000 ∧ o.n ≤ 1000 ∧ rows = Wm.bridgeR m sq o
theorem ok_bridge_between (T:Txt K mg t):FnOk P w K mg base CX0 4 t.f_bridge_between t.d_bridge_between ["one","square","other"] (sp_bridge t):=by
 refine T.F_bridge_between.ok sc_bridge_between (fun vs H Q E h=>?_) (fun cdv A outer s H vs Q E hr h=>?_)
 ·obtain ⟨_,⟨_,_,_,_,_,_,_,_,_,rfl,_⟩,_⟩:=h
  rfl
 ·obtain ⟨_,⟨a,p,b,m,o,S,S',as,sq,rfl,⟨dx,lf,ll,lh,ps,MA,_⟩,⟨dx',lf',ll',lh',ps',MB,_⟩,hp,hA,hsq,hz,hm,ho,rfl⟩,k⟩:=h
  have la:=hA.len
  refine ⟨_,(pss_cons (ps_setLc (i:=3) (own:=[("row",4)]) rfl sc_bridge_between.nd rfl rfl (sw_true rfl rfl rfl rfl) (pi_list (pv 1)) (show BlkOk ["one","square","other","ends","row","x"] (defScope st_bridge_between) _ [("row",4)] from ⟨rfl,by decide +kernel,by decide +kernel,by decide +kernel,by decide +kernel⟩) (fun _ _ _ _ _=>(pg_name (i:=4) sc_bridge_between.nd rfl (Or.inl rfl))) (fun _ _ _ _ _=>pts_nil) (fun _ _ _ _ _=>(pe_call (ok_sum_of_products T) (hr.mono (by decide)) rfl T.m_sum_of_products T.F_sum_of_products.kp (T.F_sum_of_products.binds b_sum_of_products) .nil pass0 (pa_cons (pv 4) (pa_cons (show PE _ _ (tFld K _ "lasts") from pe_fld (pv 0) rfl) pa_nil)))))
   (pss_one (ps_ret (pe_lc (own:=[("x",5)]) rfl sc_bridge_between.nd (pi_list (pv 3)) (show BlkOk ["one","square","other","ends","row","x"] (defScope st_bridge_between) _ [("x",5)] from ⟨rfl,by decide +kernel,by decide +kernel,by decide +kernel,by decide +kernel⟩) (fun _ _ _ _ _=>(pg_name (i:=5) sc_bridge_between.nd rfl (Or.inl rfl))) (fun _ _ _ _ _=>pts_nil) (fun _ _ _ _ _=>(pe_call (ok_multiple T) (hr.mono (by decide)) rfl T.m_multiple T.F_multiple.kp (T.F_multiple.binds b_multiple) .nil pass0 (pa_cons (pv 5) (pa_cons (show PE _ _ (tFld K _ "firsts") from pe_fld (pv 2) rfl) pa_nil)))))))),?_⟩
  refine st_setL (xs:=nums ((List.range sq.length).map fun i=>Wm.dotR (sq.getD i []) m.l)) (EvL.eq (evl_in (K:=K) (p:=p) (xs:=as.map V.ref) (g:=fun i=>.int ((Wm.dotR (sq.getD i []) m.l:Nat):Int)) (ev_var rfl) (SqL.of hp) (by rw [List.length_map]; omega) (fun _=>rfl) fun i x hx=>?_) ?_) (Same.refl H) fun H1 l1 s1 _ hl1=>?_
  ·obtain ⟨c,rfl,hi,_,hc⟩:=hA.at hx
   refine ev_call (evap_v (v:=.ref c) (ev_var rfl) (evap_v (ev_lasts T (ev_var rfl) MA) evap_nil)) fun vs H' s' h=>?_
   obtain ⟨us,rfl,us',rfl,rfl⟩:=h
   exact ⟨c,ll,_,m.l,rfl,s' _ _ hc,s' _ _ MA.lst,by rw [(hsq i hi).1,MA.ok.ll],by rw [(hsq i hi).1]; omega,(hsq i hi).2,rfl⟩
  ·rw [List.length_map,la,nums_range]
  ·have MB1:=MB.same s1
   have ln:(nums ((List.range sq.length).map fun i=>Wm.dotR (sq.getD i []) m.l)).length = sq.length:=by rw [nums_len]; simp
   refine st_retM (EvM.eq (evm_in (K:=K) (p:=l1) (xs:=nums ((List.range sq.length).map fun i=>Wm.dotR (sq.getD i []) m.l)) (g:=fun i=>Wm.mulR (Wm.dotR (sq.getD i []) m.l) o.f) (ev_var rfl) (SqL.of hl1) (by rw [ln]; omega) (fun _=>rfl) fun i x hx=>?_) (by rw [ln]; rfl)) (Same.refl H1) fun H2 p2 as2 s2 hp2 hR2 nd2 fr2=>k H2 p2 as2 (s1.trans s2) hp2 hR2 nd2 fun b hb=>s1.free (fr2 b hb)
   obtain ⟨hi,rfl⟩:=nums_at hx
   have hi:i < sq.length:=by simpa using hi
   rw [Wm.getD_map_range _ _ _ hi]
   refine evl_call (evap_v (ev_var rfl) (evap_v (ev_firsts T (ev_var rfl) MB1) evap_nil)) fun vs H' s' h=>?_
   obtain ⟨us,rfl,us',rfl,rfl⟩:=h
   exact ⟨_,lf',o.f,fun j=>Wm.dotR (sq.getD i []) m.l * o.f.getD j 0 % Rc64.P,rfl,s' _ _ MB1.fst,by rw [MB.ok.fl]; omega,MB.ok.fb,fun j _=>Wm.int_mul_mod _ _,rfl⟩
theorem ok_one_behind_the_other (T:Txt K mg t):FnOk P w K mg base CX0 9 t.f_one_behind_the_other t.d_one_behind_the_other ["one","other"] (sp_two t Wm.behindP):=by
 refine T.F_one_behind_the_other.ok sc_one_behind_the_other (fun vs H Q E h=>?_) (fun cdv A outer s H vs Q E hr h=>?_)
 ·obtain ⟨_,⟨_,_,_,_,_,_,rfl,_⟩,_⟩:=h
  rfl
 ·obtain ⟨_,⟨a,b,m,o,S,S',rfl,M1,M2,hk,hm,ho,hkk,rfl⟩,k⟩:=h
  obtain ⟨dx,lf,ll,lh,ps,MA,_⟩:=id M1
  obtain ⟨dx',lf',ll',lh',ps',MB,_⟩:=id M2
  have hsz:sizeLine = 16777216:=sizeLine_eq
  have l1:=MA.sqs.len
  have l2:=MB.sqs.len
  rw [MA.ok.hl] at l1
  rw [MB.ok.hl] at l2
  have hw0:Rc64.worth m.mach [] = Wm.dotR m.f m.l:=(Wm.worth_eq (m:=m) [] MA.ok.fl).symm
  refine ⟨_,(pss_cons (ps_set (i:=2) sc_one_behind_the_other.nd rfl (Or.inl rfl) (pe_op op_cat (pe_fld (pv 0) rfl) (pe_call (ok_multiple T) (hr.mono (by decide)) rfl T.m_multiple T.F_multiple.kp (T.F_multiple.binds b_multiple) .nil pass0 (pa_cons (pe_call (ok_worth_of T) (hr.mono (by decide)) rfl T.m_worth_of T.F_worth_of.kp (T.F_worth_of.binds b_worth_of) .nil pass0 (pa_cons (pv 0) (pa_cons (pe_lst pa_nil) pa_nil))) (pa_cons (pe_fld (pv 1) rfl) pa_nil)))))
   (pss_cons (ps_set (i:=3) sc_one_behind_the_other.nd rfl (Or.inl rfl) (pe_op op_cat (pe_op op_rep (pe_lst (pa_cons pe_int pa_nil)) (pe_fld (pv 0) rfl)) (pe_fld (pv 1) rfl)))
   (pss_cons (ps_setLc (i:=4) (own:=[("square",5),("its",6)]) rfl sc_one_behind_the_other.nd rfl rfl (sw_true rfl rfl rfl rfl) (pi_zip rfl T.b_zip (pa_cons (pe_fld (pv 0) rfl) (pa_cons (pe_fld (pv 1) rfl) pa_nil))) (show BlkOk ["one","other","firsts","lasts","hands","square","its"] (defScope st_one_behind_the_other) _ [("square",5),("its",6)] from ⟨rfl,by decide +kernel,by decide +kernel,by decide +kernel,by decide +kernel⟩) (fun _ _ _ _ _=>(show PG _ _ (gTup K 2 (gCons (gName 5) (gCons (gName 6) gNil))) from pg_tup (n:=2) rfl (pgs_cons (pg_name (i:=5) sc_one_behind_the_other.nd rfl (Or.inl rfl) (hf:=Or.inr rfl)) (pgs_cons (pg_name (i:=6) sc_one_behind_the_other.nd rfl (Or.inl rfl) (hf:=Or.inr rfl)) pgs_nil)))) (fun _ _ _ _ _=>pts_nil) (fun _ _ _ _ _=>(pe_call (ok_side_by_side T) (hr.mono (by decide)) rfl T.m_side_by_side T.F_side_by_side.kp (T.F_side_by_side.binds b_side_by_side) .nil pass0 (pa_cons (pv 5) (pa_cons (pe_call (ok_bridge_between T) (hr.mono (by decide)) rfl T.m_bridge_between T.F_bridge_between.kp (T.F_bridge_between.binds b_bridge_between) .nil pass0 (pa_cons (pv 0) (pa_cons (pv 5) (pa_cons (pv 1) pa_nil)))) (pa_cons (pv 6) pa_nil))))))
   (pss_one (ps_ret (pe_make T.mk_Machine (ok_Machine_init T) (hr.mono (by decide)) rfl T.m_Machine (T.F_Machine_init.binds b_Machine_init) .nil pass0 (pa_cons (pv 2) (pa_cons (pv 3) (pa_cons (pv 4) pa_nil))))))))),?_⟩
  refine st_setL (xs:=nums (m.f ++ Wm.mulR (Wm.dotR m.f m.l) o.f)) (EvL.eq (evl_catR (ys:=nums (Wm.mulR (Wm.dotR m.f m.l) o.f)) (ev_firsts T (ev_var rfl) MA) (evl_call (evap_v (v:=.int ((Wm.dotR m.f m.l:Nat):Int)) (ev_call (evap_v (v:=.ref a) (ev_var rfl) (evap_l (xs:=[]) (evl_lst eva_nil (Nat.zero_le _)) evap_nil)) fun vs H' s' h=>?_) (evap_v (ev_firsts T (ev_var rfl) MB) evap_nil)) fun vs H' s' h=>?_) MA.fst ?_) (nums_app _ _)) (Same.refl H) fun H1 f1 s1 hf0 hf1=>?_
  ·obtain ⟨us,rfl,p,us',rfl,hp,rfl⟩:=h
   exact ⟨a,m,S,p,[],rfl,M1.same s',hp,Wm.lets_nil _,by omega,by rw [hw0]⟩
  ·obtain ⟨us,rfl,us',rfl,rfl⟩:=h
   exact ⟨_,lf',o.f,fun j=>Wm.dotR m.f m.l * o.f.getD j 0 % Rc64.P,rfl,s' _ _ MB.fst,by rw [MB.ok.fl]; omega,MB.ok.fb,fun j _=>Wm.int_mul_mod _ _,rfl⟩
  ·rw [nums_len,nums_len,Wm.mulR_len,MA.ok.fl,MB.ok.fl]; omega
  have MA1:=MA.same s1
  have MB1:=MB.same s1
  refine st_setL (xs:=nums (List.replicate m.n 0 ++ o.l)) (EvL.eq (evl_catL (evl_zeros (n:=m.n) (ev_states T (ev_var rfl) MA1) (by omega)) (ev_lasts T (ev_var rfl) MB1) MB1.lst ?_) (nums_app _ _)) (Same.refl H1) fun H2 g1 s2 hg0 hg1=>?_
  ·rw [nums_len,nums_len,List.length_replicate,MB.ok.ll]; omega
  have s12:=s1.trans s2
  have MA2:=MA.same s12
  have MB2:=MB.same s12
  refine st_setS (evs_zip (K:=K) (p:=lh) (q:=lh') (n:=m.k) (g:=fun a=>Wm.sideR (m.h.getD a []) (Wm.bridgeR m (m.h.getD a []) o) (o.h.getD a [])) (eva_2 (ev_hands T (ev_var rfl) MA2) (ev_hands T (ev_var rfl) MB2)) (SqL.of MA2.hnd) (SqL.of MB2.hnd) (by rw [List.length_map]; omega) (by rw [List.length_map]; omega) (.inl (by rw [List.length_map]; omega)) (by omega) (fun _ _=>rfl) fun i x y hx hy=>?_) (Same.refl H2) fun H3 h3 ps3 s3 hl3 hq3 nd3 fr3=>?_
  ·obtain ⟨pa,rfl,hi,_,hpa,hra⟩:=MA2.sqs.at hx
   obtain ⟨pb,rfl,hj,_,hpb,hrb⟩:=MB2.sqs.at hy
   rw [MA.ok.hl] at hi
   have hi':i < o.k:=hk ▸ hi
   refine evm_call (evap_v (v:=.ref pa.1) (ev_var rfl) (evap_m (rows:=Wm.bridgeR m (m.h.getD i []) o) (evm_call (evap_v (v:=.ref a) (ev_var rfl) (evap_v (v:=.ref pa.1) (ev_var rfl) (evap_v (v:=.ref b) (ev_var rfl) evap_nil))) fun vs H' s' h=>?_) (evap_v (v:=.ref pb.1) (ev_var rfl) evap_nil))) fun vs H' s' h=>?_
   ·obtain ⟨us,rfl,us',rfl,us'',rfl,rfl⟩:=h
    refine ⟨a,pa.1,b,m,o,S,S',pa.2,_,rfl,M1.same (s12.trans s'),M2.same (s12.trans s'),s' _ _ hpa,hra.same s',fun j hj=>?_,?_,by omega,by omega,rfl⟩
    ·rw [MA.ok.sqlen hi] at hj
     exact ⟨MA.ok.rowlen hi hj,MA.ok.rowbelow hi hj⟩
    ·rw [MA.ok.sqlen hi]; omega
   ·obtain ⟨us,rfl,pm,am,us',rfl,hpm,hrm,us'',rfl,rfl⟩:=h
    refine ⟨pa.1,pm,pb.1,pa.2,am,pb.2,_,_,_,rfl,s' _ _ hpa,hpm,s' _ _ hpb,hra.same s',hrm,hrb.same s',?_,?_,?_,row_le MA.ok hi hm,?_,row_le MB.ok hi' ho,rfl⟩
    ·simp [Wm.bridgeR]
    ·rw [MA.ok.sqlen hi]; omega
    ·rw [MB.ok.sqlen hi']; omega
    ·intro j hj
     have hj:j < m.n:=by rw [← MA.ok.sqlen hi]; simpa [Wm.bridgeR] using hj
     rw [Wm.bridge_get MA.ok MB.ok hi hj,Wm.mulR_len,MB.ok.fl]; omega
  ·have s13:=s12.trans s3
   refine mk_machine (m:=Wm.behindP m o) s13 (Wm.behind_ok MA.ok MB.ok hk) hl3 hq3 (args_VVV (ev_var rfl) (ev_var rfl) (ev_var rfl) (s3 _ _ (s2 _ _ hf1)) (s3 _ _ hg1) ?_ fun c hc=>?_) k
   ·refine List.nodup_cons.2 ⟨fun z=>?_,List.nodup_cons.2 ⟨fun z=>?_,nd3⟩⟩
    ·rcases List.mem_cons.1 z with e | e
     ·rw [e,hg0] at hf1; cases hf1
     ·have:=fr3 f1 e
      rw [s2 _ _ hf1] at this; cases this
    ·have:=fr3 g1 z
     rw [hg1] at this; cases this
   ·rcases List.mem_cons.1 hc with e | hc
    ·rw [e]; exact hf0
    rcases List.mem_cons.1 hc with e | hc
    ·rw [e]; exact s1.free hg0
    ·exact s12.free (fr3 c hc)
noncomputable def sp_column:Sp:=SpL fun vs H xs=>∃ (p:Addr) (as:List Addr) (sq:List (List Nat)) (j:Nat),vs = [.ref p,.int j] ∧ H p = some (.lst (as.map V.ref)) ∧ Rows H as sq ∧ (∀ i,i < sq.length → j < (sq.getD i []).length) ∧ sq.length ≤ 1000 ∧ xs = nums ((List.range sq.length).map fun i=>(sq.getD i []).getD j 0)
theorem ok_column (T:Txt K mg t):FnOk P w K mg base CX0 1 t.f_column t.d_column ["square","j"] sp_column:=by
 refine T.F_column.ok sc_column (fun vs H Q E h=>?_) (fun cdv A outer s H vs Q E hr h=>?_)
 ·obtain ⟨_,⟨_,_,_,_,rfl,_⟩,_⟩:=h
  rfl
 ·obtain ⟨_,⟨p,as,sq,j,rfl,hp,hA,hj,hz,rfl⟩,k⟩:=h
  have la:=hA.len
  refine ⟨_,(pss_one (ps_ret (pe_lc (own:=[("row",2)]) rfl sc_column.nd (pi_list (pv 0)) (show BlkOk ["square","j","row"] (defScope st_column) _ [("row",2)] from ⟨rfl,by decide +kernel,by decide +kernel,by decide +kernel,by decide +kernel⟩) (fun _ _ _ _ _=>(pg_name (i:=2) sc_column.nd rfl (Or.inl rfl))) (fun _ _ _ _ _=>pts_nil) (fun _ _ _ _ _=>(pe_ix (show IxR _ (rIxL K) from ix_list) (pv 2) (pv 1) (fun _ _=>rfl)))))),?_⟩
  refine st_retL (EvL.eq (evl_in (K:=K) (p:=p) (xs:=as.map V.ref) (g:=fun i=>.int (((sq.getD i []).getD j 0:Nat):Int)) (ev_var rfl) (SqL.of hp) (by rw [List.length_map]; omega) (fun _=>rfl) fun i x hx=>?_) ?_) (Same.refl H) k
  ·obtain ⟨a,rfl,hi,_,ha⟩:=hA.at hx
   exact ev_ix (K:=K) (ev_var rfl) (ev_var rfl) (SqL.of ha) (at_of (j:=j) rfl (nums_get' (hj i hi)))
  ·rw [List.length_map,la,nums_range]
noncomputable def backR (sq:List (List Nat)):List (List Nat):=(List.range sq.length).map fun j=>(List.range sq.length).map fun i=>(sq.getD i []).getD j 0
noncomputable def sp_handed_back:Sp:=SpM fun vs H rows=>∃ (p:Addr) (as:List Addr) (sq:List (List Nat)),vs = [.ref p] ∧ H p = some (.lst (as.map V.ref)) ∧ Rows H as sq ∧ (∀ i,i < sq.length → (sq.getD i []).length = sq.length) ∧ sq.length ≤ 1000 ∧ rows = backR sq
theorem ok_handed_back (T:Txt K mg t):FnOk P w K mg base CX0 4 t.f_handed_back t.d_handed_back ["square"] sp_handed_back:=by
 refine T.F_handed_back.ok sc_handed_back (fun vs H Q E h=>?_) (fun cdv A outer s H vs Q E hr h=>?_)
 ·obtain ⟨_,⟨_,_,_,rfl,_⟩,_⟩:=h
  rfl
 ·obtain ⟨_,⟨p,as,sq,rfl,hp,hA,hj,hz,rfl⟩,k⟩:=h
  have la:=hA.len
  refine ⟨_,(pss_one (ps_ret (pe_lc (own:=[("j",1)]) rfl sc_handed_back.nd (pi_range1 rfl T.b_range (pa_cons (pe_callB call_len_seq (by rfl) T.b_len PySem.boot_len (pa_cons (pv 0) pa_nil)) pa_nil)) (show BlkOk ["square","j"] (defScope st_handed_back) _ [("j",1)] from ⟨rfl,by decide +kernel,by decide +kernel,by decide +kernel,by decide +kernel⟩) (fun _ _ _ _ _=>(pg_name (i:=1) sc_handed_back.nd rfl (Or.inl rfl))) (fun _ _ _ _ _=>pts_nil) (fun _ _ _ _ _=>(pe_call (ok_column T) (hr.mono (by decide)) rfl T.m_column T.F_column.kp (T.F_column.binds b_column) .nil pass0 (pa_cons (pv 0) (pa_cons (pv 1) pa_nil))))))),?_⟩
  refine st_retM (evm_range (n:=sq.length) (g:=fun j=>(List.range sq.length).map fun i=>(sq.getD i []).getD j 0) (eva_1 (Ev.eq (ev_len (K:=K) (p:=p) (eva_1 (ev_var rfl)) (SqL.of hp)) (by rw [List.length_map,la]))) (by omega) (fun _=>rfl) fun j hjj=>?_) (Same.refl H) k
  refine evl_call (evap_v (v:=.ref p) (ev_var rfl) (evap_v (v:=.int (j:Int)) (ev_var rfl) evap_nil)) fun vs H' s' h=>?_
  obtain ⟨us,rfl,us',rfl,rfl⟩:=h
  exact ⟨p,as,sq,j,rfl,s' _ _ hp,hA.same s',fun i hi=>by rw [hj i hi]; exact hjj,hz,rfl⟩
noncomputable def sp_turned (t:Adr):Sp:=SpMach t.c_Machine fun vs H q=>∃ (a:Addr) (m:Wm.PM) (S:List Addr),vs = [.ref a] ∧ Mach t.c_Machine H a m S ∧ m.n ≤ 1000 ∧ m.k ≤ 1000 ∧ q = Wm.turnedP m
theorem ok_turned (T:Txt K mg t):FnOk P w K mg base CX0 7 t.f_turned t.d_turned ["machine"] (sp_turned t):=by
 refine T.F_turned.ok sc_turned (fun vs H Q E h=>?_) (fun cdv A outer s H vs Q E hr h=>?_)
 ·obtain ⟨_,⟨_,_,_,rfl,_⟩,_⟩:=h
  rfl
 ·obtain ⟨_,⟨a,m,S,rfl,⟨dx,lf,ll,lh,ps,MA,_⟩,hn,hk,rfl⟩,k⟩:=h
  have l1:=MA.sqs.len
  rw [MA.ok.hl] at l1
  refine ⟨_,(pss_cons (ps_setLc (i:=1) (own:=[("square",2)]) rfl sc_turned.nd rfl rfl (sw_true rfl rfl rfl rfl) (pi_list (pe_fld (pv 0) rfl)) (show BlkOk ["machine","hands","square"] (defScope st_turned) _ [("square",2)] from ⟨rfl,by decide +kernel,by decide +kernel,by decide +kernel,by decide +kernel⟩) (fun _ _ _ _ _=>(pg_name (i:=2) sc_turned.nd rfl (Or.inl rfl))) (fun _ _ _ _ _=>pts_nil) (fun _ _ _ _ _=>(pe_call (ok_handed_back T) (hr.mono (by decide)) rfl T.m_handed_back T.F_handed_back.kp (T.F_handed_back.binds b_handed_back) .nil pass0 (pa_cons (pv 2) pa_nil))))
   (pss_one (ps_ret (pe_make T.mk_Machine (ok_Machine_init T) (hr.mono (by decide)) rfl T.m_Machine (T.F_Machine_init.binds b_Machine_init) .nil pass0 (pa_cons (pe_callTy call_list_of (by rfl) T.b_list PyProof.Rows.boot_list (pa_cons (pe_fld (pv 0) rfl) pa_nil)) (pa_cons (pe_callTy call_list_of (by rfl) T.b_list PyProof.Rows.boot_list (pa_cons (pe_fld (pv 0) rfl) pa_nil)) (pa_cons (pv 1) pa_nil))))))),?_⟩
  refine st_setS (EvS.eq (evs_in (K:=K) (p:=lh) (g:=fun a=>backR (m.h.getD a [])) (ev_hands T (ev_var rfl) MA) (SqL.of MA.hnd) (by rw [List.length_map]; omega) (fun _=>rfl) fun i x hx=>?_) (show _ = (Wm.turnedP m).h by rw [List.length_map,l1]; rfl)) (Same.refl H) fun H2 l2 ps2 s2 hl2 hq2 nd2 fr2=>?_
  ·obtain ⟨pa,rfl,hi,_,hpa,hra⟩:=MA.sqs.at hx
   rw [MA.ok.hl] at hi
   refine evm_call (evap_v (v:=.ref pa.1) (ev_var rfl) evap_nil) fun vs H' s' h=>?_
   obtain ⟨us,rfl,rfl⟩:=h
   refine ⟨pa.1,pa.2,_,rfl,s' _ _ hpa,hra.same s',fun j hj=>?_,?_,rfl⟩
   ·rw [MA.ok.sqlen hi] at hj ⊢
    exact MA.ok.rowlen hi hj
   ·rw [MA.ok.sqlen hi]; exact hn
  ·have MA2:=MA.same s2
   exact mk_machine (m:=Wm.turnedP m) s2 (Wm.turned_ok MA.ok) hl2 hq2 (args_LL (evl_list (K:=K) (eva_1 (ev_lasts T (ev_var rfl) MA2)) (SqL.of MA2.lst)) (evl_list (K:=K) (eva_1 (ev_firsts T (ev_var rfl) MA2)) (SqL.of MA2.fst)) (ev_var rfl) s2 nd2 fr2 (sq_some hl2 hq2)) k
noncomputable def kindP (kd:Int) (m o:Wm.PM):Wm.PM:=if kd = 0 then Wm.addedP m o else if kd = 1 then Wm.multP m o else if kd = 2 then Wm.behindP m o else Wm.turnedP m
noncomputable def sp_made_of_two (t:Adr):Sp:=SpMach t.c_Machine fun vs H q=>∃ (kd:Int) (a b:Addr) (m o:Wm.PM) (S S':List Addr),vs = [.int kd,.ref a,.ref b] ∧ Mach t.c_Machine H a m S ∧ Mach t.c_Machine H b o S' ∧ m.k = o.k ∧ m.n ≤ 100 ∧ o.n ≤ 100 ∧ m.k ≤ 100 ∧ q = kindP kd m o
theorem ok_made_of_two (T:Txt K mg t):FnOk P w K mg base CX0 11 t.f_made_of_two t.d_made_of_two ["kind","one","other"] (sp_made_of_two t):=by
 refine T.F_made_of_two.ok sc_made_of_two (fun vs H Q E h=>?_) (fun cdv A outer s H vs Q E hr h=>?_)
 ·obtain ⟨_,⟨_,_,_,_,_,_,_,rfl,_⟩,_⟩:=h
  rfl
 ·obtain ⟨_,⟨kd,a,b,m,o,S,S',rfl,M1,M2,hk,hm,ho,hkk,rfl⟩,k⟩:=h
  refine ⟨_,(pss_cons (ps_if (pt_cmpR op_eq (pv 0) (pe_glob (v:=.int 0) rfl T.m_ADDED ⟨_,rfl⟩) (nomark _)) (pss_one (ps_ret (pe_call (ok_added T) (hr.mono (by decide)) rfl T.m_added T.F_added.kp (T.F_added.binds b_added) .nil pass0 (pa_cons (pv 1) (pa_cons (pv 2) pa_nil))))) pss_nil)
   (pss_cons (ps_if (pt_cmpR op_eq (pv 0) (pe_glob (v:=.int 1) rfl T.m_MULTIPLIED ⟨_,rfl⟩) (nomark _)) (pss_one (ps_ret (pe_call (ok_multiplied T) (hr.mono (by decide)) rfl T.m_multiplied T.F_multiplied.kp (T.F_multiplied.binds b_multiplied) .nil pass0 (pa_cons (pv 1) (pa_cons (pv 2) pa_nil))))) pss_nil)
   (pss_cons (ps_if (pt_cmpR op_eq (pv 0) (pe_glob (v:=.int 2) rfl T.m_BEHIND ⟨_,rfl⟩) (nomark _)) (pss_one (ps_ret (pe_call (ok_one_behind_the_other T) (hr.mono (by decide)) rfl T.m_one_behind_the_other T.F_one_behind_the_other.kp (T.F_one_behind_the_other.binds b_one_behind_the_other) .nil pass0 (pa_cons (pv 1) (pa_cons (pv 2) pa_nil))))) pss_nil)
   (pss_one (ps_ret (pe_call (ok_turned T) (hr.mono (by decide)) rfl T.m_turned T.F_turned.kp (T.F_turned.binds b_turned) .nil pass0 (pa_cons (pv 1) pa_nil))))))),?_⟩
  have two:∀ (g:Wm.PM → Wm.PM → Wm.PM) (H1:Hp),Same H H1 → ∀ vs H',Same H1 H' → (∃ us,vs = V.ref a :: us ∧ ∃ us',us = V.ref b :: us' ∧ us' = []) → ∃ (a b:Addr) (m' o':Wm.PM) (S S':List Addr),vs = [.ref a,.ref b] ∧ Mach t.c_Machine H' a m' S ∧ Mach t.c_Machine H' b o' S' ∧ m'.k = o'.k ∧ m'.n ≤ 100 ∧ o'.n ≤ 100 ∧ m'.k ≤ 100 ∧ g m o = g m' o':=by
   rintro g H1 s1 vs H' s' ⟨us,rfl,us',rfl,rfl⟩
   exact ⟨a,b,m,o,S,S',rfl,M1.same (s1.trans s'),M2.same (s1.trans s'),hk,hm,ho,hkk,rfl⟩
  unfold kindP at k
  refine (evt_test (ev_eqI (i:=kd) (j:=0) (ev_var rfl) ev_c)) H (Same.refl H) _ fun H1 s1=>?_
  by_cases h0:kd = 0
  ·refine itY (decide_eq_true h0) ?_
   rw [if_pos h0] at k
   exact st_retMach (evap_v (ev_var rfl) (evap_v (ev_var rfl) evap_nil)) (two _ H1 s1) (Same.refl H1) fun H2 c S2 s2 M fr=>k H2 c S2 (s1.trans s2) M fun b hb=>s1.free (fr b hb)
  refine itN (decide_eq_false h0) ?_
  rw [if_neg h0] at k
  refine (evt_test (ev_eqI (i:=kd) (j:=1) (ev_var rfl) ev_c)) H1 (Same.refl H1) _ fun H2 s2=>?_
  have s12:=s1.trans s2
  by_cases h1:kd = 1
  ·refine itY (decide_eq_true h1) ?_
   rw [if_pos h1] at k
   exact st_retMach (evap_v (ev_var rfl) (evap_v (ev_var rfl) evap_nil)) (two _ H2 s12) (Same.refl H2) fun H3 c S2 s3 M fr=>k H3 c S2 (s12.trans s3) M fun b hb=>s12.free (fr b hb)
  refine itN (decide_eq_false h1) ?_
  rw [if_neg h1] at k
  refine (evt_test (ev_eqI (i:=kd) (j:=2) (ev_var rfl) ev_c)) H2 (Same.refl H2) _ fun H3 s3=>?_
  have s13:=s12.trans s3
  by_cases h2:kd = 2
  ·refine itY (decide_eq_true h2) ?_
   rw [if_pos h2] at k
   exact st_retMach (evap_v (ev_var rfl) (evap_v (ev_var rfl) evap_nil)) (two _ H3 s13) (Same.refl H3) fun H4 c S2 s4 M fr=>k H4 c S2 (s13.trans s4) M fun b hb=>s13.free (fr b hb)
  refine itN (decide_eq_false h2) ?_
  rw [if_neg h2] at k
  refine st_retMach (evap_v (v:=.ref a) (ev_var rfl) evap_nil) (fun vs H' s' h=>?_) (Same.refl H3) fun H4 c S2 s4 M fr=>k H4 c S2 (s13.trans s4) M fun b hb=>s13.free (fr b hb)
  obtain ⟨us,rfl,rfl⟩:=h
  exact ⟨a,m,S,rfl,M1.same (s13.trans s'),by omega,by omega,rfl⟩
noncomputable def sp_negative (t:Adr):Sp:=fun vs H Q _=>∃ (a:Addr) (m:Wm.PM) (S:List Addr),vs = [.ref a] ∧ Mach t.c_Machine H a m S ∧ m.n ≤ 1000 ∧ ∀ H' b S',Same H H' → Mach t.c_Machine H' b (Wm.negP m) S' → Q (.ref b) H'
theorem ok_negative (T:Txt K mg t):FnOk P w K mg base CX0 4 t.f_negative t.d_negative ["machine"] (sp_negative t):=by
 refine T.F_negative.ok sc_negative (fun vs H Q E h=>?_) (fun cdv A outer s H vs Q E hr h=>?_)
 ·obtain ⟨_,_,_,rfl,_⟩:=h
  rfl
 ·obtain ⟨a,m,S,rfl,⟨dx,lf,ll,lh,ps,MA,_⟩,hn,k⟩:=h
  refine ⟨_,(pss_one (ps_ret (pe_make T.mk_Machine (ok_Machine_init T) (hr.mono (by decide)) rfl T.m_Machine (T.F_Machine_init.binds b_Machine_init) .nil pass0 (pa_cons (pe_fld (pv 0) rfl) (pa_cons (pe_call (ok_multiple T) (hr.mono (by decide)) rfl T.m_multiple T.F_multiple.kp (T.F_multiple.binds b_multiple) .nil pass0 (pa_cons (pe_un un_neg pe_int) (pa_cons (pe_fld (pv 0) rfl) pa_nil))) (pa_cons (pe_fld (pv 0) rfl) pa_nil)))))),?_⟩
  have nd:=MA.nd
  refine st_makeVLV (xs:=nums (Wm.negP m).l) (ev_firsts T (ev_var rfl) MA) (evl_call (evap_v (v:=.int (-1)) (ev_un (g:=fun i=>V.int (-i)) (i:=1) ev_c) (evap_v (ev_lasts T (ev_var rfl) MA) evap_nil)) fun vs H' s' h=>?_) (ev_hands T (ev_var rfl) MA) fun H3 l2 s3 hl0 hl2 x d hx hd hne=>?_
  ·obtain ⟨us,rfl,us',rfl,rfl⟩:=h
   exact ⟨_,ll,m.l,fun i=>(Rc64.P - m.l.getD i 0) % Rc64.P,rfl,s' _ _ MA.lst,by rw [MA.ok.ll]; omega,MA.ok.lb,fun i _=>Wm.int_neg_mod (Wm.below_getD MA.ok.lb i),rfl⟩
  have MA3:=MA.same s3
  have up:∀ b o (z:HO),H3 b = some o → upd (upd H3 d (.own x)) x z b = some o:=fun b o z e=>by rw [upd_ne (ne_of_none e hx),upd_ne (ne_of_none e hd)]; exact e
  refine ⟨x,d,lf,l2,lh,_,_,rfl,upd_same,up _ _ _ MA3.fst,up _ _ _ MA3.hnd,fun H4 e4=>⟨rfl,?_⟩⟩
  rw [upd_upd] at e4
  have s34:Same H3 H4:=fun b o e=>by rw [e4]; exact up b o _ e
  have MA4:=MA3.same s34
  have el1:(nums m.f).length = m.n:=by rw [nums_len,MA.ok.fl]
  have el2:(ps.map fun (x:Addr × List Addr)=>V.ref x.1).length = m.k:=by rw [List.length_map,MA.sqs.len,MA.ok.hl]
  refine k H4 x (x :: lf :: l2 :: lh :: sqF ps) (s3.trans s34) ⟨d,lf,l2,lh,ps,⟨Wm.neg_ok MA.ok,?_,MA4.fst,s34 _ _ hl2,MA4.hnd,MA4.sqs,?_⟩,rfl⟩
  ·rw [e4,upd_same,el1,el2]
   rfl
  ·simp only [List.nodup_cons,List.mem_cons,not_or] at nd
   obtain ⟨⟨n1,n2,n3,n4⟩,⟨n5,n6,n7⟩,⟨n8,n9⟩,n10,n11⟩:=nd
   have nx:∀ b,H3 b ≠ none → x ≠ b:=fun b hb z=>hb (z ▸ hx)
   have n2':∀ b,H b ≠ none → l2 ≠ b:=fun b hb z=>hb (z ▸ hl0)
   have f1:H lf ≠ none:=by rw [MA.fst]; intro z; cases z
   have h1:H lh ≠ none:=by rw [MA.hnd]; intro z; cases z
   have f3:H3 lf ≠ none:=by rw [MA3.fst]; intro z; cases z
   have h3:H3 lh ≠ none:=by rw [MA3.hnd]; intro z; cases z
   have l3:H3 l2 ≠ none:=by rw [hl2]; intro z; cases z
   refine List.nodup_cons.2 ⟨fun z=>?_,List.nodup_cons.2 ⟨fun z=>?_,List.nodup_cons.2 ⟨fun z=>?_,List.nodup_cons.2 ⟨n10,n11⟩⟩⟩⟩
   ·rcases List.mem_cons.1 z with e | z
    ·exact nx _ f3 e
    rcases List.mem_cons.1 z with e | z
    ·exact nx _ l3 e
    rcases List.mem_cons.1 z with e | z
    ·exact nx _ h3 e
    ·exact MA3.sqs.none x z hx
   ·rcases List.mem_cons.1 z with e | z
    ·exact n2' _ f1 e.symm
    rcases List.mem_cons.1 z with e | z
    ·exact n6 e
    ·exact n7 z
   ·rcases List.mem_cons.1 z with e | z
    ·exact n2' _ h1 e
    ·exact MA.sqs.none l2 z hl0
end
end Wp
namespace Wp
open PySem PySem.Spec PyProof.Rows L2
open PySem.W (Codec)
noncomputable def spF (lr lp:Addr):List (Str × V):=putF "pivots" (.ref lp) (putF "rows" (.ref lr) [])
theorem spF_eq (lr lp:Addr):spF lr lp = [(("rows":Str),V.ref lr),(("pivots":Str),V.ref lp)]:=by
 unfold spF
 show (if ("rows":Str) = "pivots" then _ else _) = _
 rw [if_neg (by decide +kernel)]
 rfl
theorem spF_rows (lr lp:Addr):(spF lr lp).lookup ("rows":Str) = some (.ref lr):=by
 unfold spF
 rw [look_ne _ _ (by decide +kernel),look_same]
theorem spF_pivots (lr lp:Addr):(spF lr lp).lookup ("pivots":Str) = some (.ref lp):=look_same ..
theorem spF_no (lr lp:Addr) {m:Str} (h1:¬ m = "rows") (h2:¬ m = "pivots"):(spF lr lp).lookup m = none:=by
 unfold spF
 rw [look_ne _ _ h2,look_ne _ _ h1]
 rfl
theorem spF_put (lr lp p:Addr):putF "rows" (.ref p) (spF lr lp) = spF p lp:=by
 rw [spF_eq,spF_eq]
 show (if ("rows":Str) = "rows" then _ else _) = _
 rw [if_pos rfl]
structure SpaceAt (t:Adr) (H:Hp) (s lr lp:Addr) (as:List Addr) (l:List Rc64.Row):Prop where
 ins:∃ dx,H s = some (.ins t.c_Space dx (spF lr lp))
 rows:H lr = some (.lst (as.map V.ref))
 pivs:H lp = some (.lst (nums (l.map (·.1))))
 dat:Rows H as (l.map (·.2))
theorem SpaceAt.frame {t:Adr} {H H':Hp} {s lr lp:Addr} {as:List Addr} {l:List Rc64.Row} (h:SpaceAt t H s lr lp as l) (k:∀ b,b ∈ s :: lr :: lp :: as → H' b = H b):SpaceAt t H' s lr lp as l:=by
 obtain ⟨dx,hi⟩:=h.ins
 refine ⟨⟨dx,?_⟩,?_,?_,h.dat.frame fun b hb=>k b (by simp [hb])⟩
 ·rw [k s (by simp)]; exact hi
 ·rw [k lr (by simp)]; exact h.rows
 ·rw [k lp (by simp)]; exact h.pivs
theorem SpaceAt.same {t:Adr} {H H':Hp} {s lr lp:Addr} {as:List Addr} {l:List Rc64.Row} (h:SpaceAt t H s lr lp as l) (k:Same H H'):SpaceAt t H' s lr lp as l:=by
 obtain ⟨dx,hi⟩:=h.ins
 exact ⟨⟨dx,k _ _ hi⟩,k _ _ h.rows,k _ _ h.pivs,h.dat.same k⟩
theorem piv_get {l:List Rc64.Row} {i:Nat} (hi:i < l.length):(l.map (·.1)).getD i 0 = Wm.pv l i:=by
 unfold Wm.pv
 rw [Wm.getD_lt (by simpa using hi),Wm.getD_lt hi,List.getElem_map]
theorem ev_isN {σ:L2.St} {H:Hp} {ta:TE} {v:V} (ha:Ev ta σ H v):Ev (tOp (fun x y H Q=>y = .non ∧ Q (.bl (decide (x = .non))) H) ta (tC .non)) σ H (.bl (decide (v = .non))):=fun H' s R k =>
 ha H' s _ fun H1 s1=>⟨rfl,k H1 s1⟩
theorem st_fldM {K:PySem.W.Frag} {σ:L2.St} {H H0:Hp} {ta tv:TE} {f:Str} {D:Ends} {rows:List (List Nat)} (h:EvM tv σ H0 rows) (s:Same H0 H)
  (k:∀ H1 p as,Same H H1 → H1 p = some (.lst (as.map V.ref)) → Rows H1 as rows → (p :: as).Nodup → (∀ b,b ∈ p :: as → H b = none) → ta σ H1 fun x H2=>∃ a C dx fs,x = .ref a ∧ H2 a = some (.ins C dx fs) ∧ Cls K C ∧ NoAttr K C f ∧ fs.length < 1000 ∧ D.nx σ (upd H2 a (.ins C dx (putF f (.ref p) fs)))):sFld K ta tv f D σ H:=h H s _ k
section
variable {P:Program} {w:World} {K:PySem.W.Frag} {mg:Str → Option Value} {base:Heap} {t:Adr}
noncomputable def sp_Space_init (t:Adr):Sp:=fun vs H Q _=>∃ (s dx:Addr),vs = [.ref s] ∧ H s = some (.ins t.c_Space dx []) ∧ ∀ H' lr lp,SpaceAt t H' s lr lp [] [] → H lr = none → H lp = none → (∀ b o,H b = some o → b ≠ s → H' b = some o) → Q .non H'
theorem ok_Space_init (T:Txt K mg t):FnOk P w K mg base CX0 1 t.f_Space_init t.d_Space_init ["self"] (sp_Space_init t):=by
 refine T.F_Space_init.ok sc_Space_init (fun vs H Q E h=>?_) (fun cdv A outer s H vs Q E hr h=>?_)
 ·obtain ⟨_,_,rfl,_⟩:=h
  rfl
 ·obtain ⟨s,dx,rfl,hs,k⟩:=h
  refine ⟨_,(pss_cons (ps_fld (pv 0) (pe_lst pa_nil) rfl)
   (pss_one (ps_fld (pv 0) (pe_lst pa_nil) rfl))),?_⟩
  refine ⟨Nat.zero_le _,fun lr hlr=>?_⟩
  have n1:s ≠ lr:=ne_of_none hs hlr
  refine ⟨_,rfl,s,_,dx,_,rfl,by rw [upd_ne n1]; exact hs,T.cl_Space,T.na_Space_rows,(by show 0 < 1000; decide),?_⟩
  refine ⟨Nat.zero_le _,fun lp hlp=>?_⟩
  obtain ⟨n2,hlp1⟩:=upd_none hlp
  obtain ⟨n3,hlp2⟩:=upd_none hlp1
  refine ⟨_,rfl,s,_,dx,_,rfl,by rw [upd_ne (Ne.symm n2),upd_same],T.cl_Space,T.na_Space_pivots,(by show 1 < 1000; decide),?_⟩
  refine k _ lr lp ⟨⟨dx,?_⟩,?_,?_,trivial⟩ hlr hlp2 fun b o e hb=>?_
  ·rw [upd_same]; rfl
  ·rw [upd_ne (Ne.symm n1),upd_ne (Ne.symm n3),upd_ne (Ne.symm n1),upd_same]; rfl
  ·rw [upd_ne n2,upd_same]; rfl
  ·rw [upd_ne hb,upd_ne (ne_of_none e hlp2),upd_ne hb,upd_ne (ne_of_none e hlr)]; exact e
noncomputable def sp_factors (t:Adr):Sp:=SpL fun vs H xs=>∃ (s lr lp:Addr) (as:List Addr) (l:List Rc64.Row) (p:Addr) (v:List Nat),vs = [.ref s,.ref p] ∧ SpaceAt t H s lr lp as l ∧ H p = some (.lst (nums v)) ∧ (∀ i,i < l.length → Wm.pv l i < v.length) ∧ l.length ≤ 1000 ∧ xs = nums (Wm.facR l v)
theorem ok_Space_factors (T:Txt K mg t):FnOk P w K mg base CX0 1 t.f_Space_factors t.d_Space_factors ["self","row"] (sp_factors t):=by
 refine T.F_Space_factors.ok sc_Space_factors (fun vs H Q E h=>?_) (fun cdv A outer s H vs Q E hr h=>?_)
 ·obtain ⟨_,⟨_,_,_,_,_,_,_,rfl,_⟩,_⟩:=h
  rfl
 ·obtain ⟨_,⟨s,lr,lp,as,l,p,v,rfl,A,hp,hv,hz,rfl⟩,k⟩:=h
  obtain ⟨dx,hi⟩:=A.ins
  refine ⟨_,(pss_one (ps_ret (pe_lc (own:=[("pivot",2)]) rfl sc_Space_factors.nd (pi_list (pe_fld (pv 0) rfl)) (show BlkOk ["self","row","pivot"] (defScope st_Space_factors) _ [("pivot",2)] from ⟨rfl,by decide +kernel,by decide +kernel,by decide +kernel,by decide +kernel⟩) (fun _ _ _ _ _=>(pg_name (i:=2) sc_Space_factors.nd rfl (Or.inl rfl))) (fun _ _ _ _ _=>pts_nil) (fun _ _ _ _ _=>(pe_ix (show IxR _ (rIxL K) from ix_list) (pv 1) (pv 2) (fun _ _=>rfl)))))),?_⟩
  refine st_retL (EvL.eq (evl_in (K:=K) (p:=lp) (xs:=nums (l.map (·.1))) (g:=fun i=>.int ((v.getD (Wm.pv l i) 0:Nat):Int)) (ev_fld (ev_var rfl) hi T.cl_Space T.na_Space_pivots (spF_pivots ..)) (SqL.of A.pivs) (by rw [nums_len,List.length_map]; omega) (fun _=>rfl) fun i x hx=>?_) ?_) (Same.refl H) k
  ·obtain ⟨hi,rfl⟩:=nums_at hx
   rw [List.length_map] at hi
   rw [piv_get hi]
   exact ev_ix (K:=K) (ev_var rfl) (ev_var rfl) (SqL.of hp) (at_of (j:=Wm.pv l i) rfl (nums_get' (hv i hi)))
  ·rw [nums_len,List.length_map,nums_range]
   rfl
noncomputable def sp_rest (t:Adr):Sp:=SpL fun vs H xs=>∃ (s lr lp:Addr) (as:List Addr) (l:List Rc64.Row) (p:Addr) (v:List Nat) (N:Nat),vs = [.ref s,.ref p] ∧ SpaceAt t H s lr lp as l ∧ H p = some (.lst (nums v)) ∧ Wm.RE N l ∧ v.length = N ∧ N ≤ 1000 ∧ Wm.below v ∧ xs = nums (Wm.restR l v)
theorem ok_Space_rest (T:Txt K mg t):FnOk P w K mg base CX0 3 t.f_Space_rest t.d_Space_rest ["self","row"] (sp_rest t):=by
 refine T.F_Space_rest.ok sc_Space_rest (fun vs H Q E h=>?_) (fun cdv A outer s H vs Q E hr h=>?_)
 ·obtain ⟨_,⟨_,_,_,_,_,_,_,_,rfl,_⟩,_⟩:=h
  rfl
 ·obtain ⟨_,⟨s,lr,lp,as,l,p,v,N,rfl,A,hp,re,hv,hz,hb,rfl⟩,k⟩:=h
  obtain ⟨dx,hi⟩:=A.ins
  have hll:=re.ech.len
  refine ⟨_,(pss_one (ps_ret (pe_call (ok_difference T) (hr.mono (by decide)) rfl T.m_difference T.F_difference.kp (T.F_difference.binds b_difference) .nil pass0 (pa_cons (pv 1) (pa_cons (pe_call (ok_sum_of_multiples T) (hr.mono (by decide)) rfl T.m_sum_of_multiples T.F_sum_of_multiples.kp (T.F_sum_of_multiples.binds b_sum_of_multiples) .nil pass0 (pa_cons (pe_meth (pv 0) T.cl_Space T.me_Space_factors (ok_Space_factors T) (hr.mono (by decide)) (T.F_Space_factors.binds b_Space_factors) .nil pass0 (pa_cons (pv 1) pa_nil)) (pa_cons (pe_fld (pv 0) rfl) (pa_cons (pe_callB call_len_seq (by rfl) T.b_len PySem.boot_len (pa_cons (pv 1) pa_nil)) pa_nil)))) pa_nil))))),?_⟩
  refine st_retL (evl_call (evap_v (v:=.ref p) (ev_var rfl) (evap_l (xs:=nums (Wm.somR (Wm.facR l v) (l.map (·.2)) v.length)) (evl_call (evap_l (xs:=nums (Wm.facR l v)) (evl_meth (ev_var rfl) hi (spF_no _ _ (by decide +kernel) (by decide +kernel)) (evap_v (v:=.ref p) (ev_var rfl) evap_nil) fun vs H' s' h=>?_) (evap_v (ev_fld (ev_var rfl) hi T.cl_Space T.na_Space_rows (spF_rows ..)) (evap_v (v:=.int (v.length:Nat)) (Ev.eq (ev_len (K:=K) (p:=p) (eva_1 (ev_var rfl)) (SqL.of hp)) (by rw [nums_len])) evap_nil))) fun vs H' s' h=>?_) evap_nil)) fun vs H' s' h=>?_) (Same.refl H) k
  ·obtain ⟨us,rfl,rfl⟩:=h
   exact ⟨s,lr,lp,as,l,p,v,rfl,A.same s',s' _ _ hp,fun i hi=>by rw [hv]; exact (re.mem i hi).2.2,by omega,rfl⟩
  ·obtain ⟨q,us,rfl,hq,us',rfl,us'',rfl,rfl⟩:=h
   refine ⟨q,lr,as,_,_,v.length,rfl,hq,s' _ _ A.rows,A.dat.same s',by rw [Wm.facR_len,List.length_map],fun i hi=>?_,Wm.facR_below hb,by omega,by rw [Wm.facR_len]; omega,rfl⟩
   rw [List.length_map] at hi
   rw [Wm.rw_map hi,(re.mem i hi).1,hv]
  ·obtain ⟨us,rfl,q,us',rfl,hq,rfl⟩:=h
   exact ⟨p,q,v,_,rfl,s' _ _ hp,hq,by rw [Wm.somR_len],by omega,Wm.somR_below _ _ _,rfl⟩
noncomputable def sp_grows_by (t:Adr):Sp:=fun vs H Q _=>∃ (s lr lp:Addr) (as:List Addr) (l:List Rc64.Row) (p:Addr) (v:List Nat) (N:Nat),vs = [.ref s,.ref p] ∧ SpaceAt t H s lr lp as l ∧ H p = some (.lst (nums v)) ∧ Wm.RE N l ∧ v.length = N ∧ N ≤ 1000 ∧ Wm.below v ∧
 (Wm.growR l v = none → ∀ H',Same H H' → Q (.bl false) H') ∧
 ∀ l',Wm.growR l v = some l' → ∀ H' lr' as',SpaceAt t H' s lr' lp as' l' → (∀ b o,H b = some o → b ≠ s → b ≠ lp → H' b = some o) → (∀ b,b ∈ lr' :: as' → H b = none) → Q (.bl true) H'
theorem grown_fst (l:List Rc64.Row) (p:Nat) (fr:List Nat):(Wm.grown l p fr).map (·.1) = l.map (·.1) ++ [p]:=by
 unfold Wm.grown
 rw [List.map_append,List.map_map]
 congr 1
 refine List.ext_getElem (by simp) fun i h1 h2=>?_
 have hi:i < l.length:=by simpa using h2
 simp only [List.getElem_map,List.getElem_range,Function.comp]
 unfold Wm.pv
 rw [Wm.getD_lt hi]
theorem grown_snd (l:List Rc64.Row) (p:Nat) (fr:List Nat):(Wm.grown l p fr).map (·.2) = ((List.range l.length).map fun i=>Wm.subR (Wm.rw' l i) (Wm.mulR ((Wm.rw' l i).getD p 0) fr)) ++ [fr]:=by
 unfold Wm.grown
 rw [List.map_append,List.map_map]
 rfl
theorem ok_Space_grows_by (T:Txt K mg t):FnOk P w K mg base CX0 6 t.f_Space_grows_by t.d_Space_grows_by ["self","row"] (sp_grows_by t):=by
 refine T.F_Space_grows_by.ok sc_Space_grows_by (fun vs H Q E h=>?_) (fun cdv A outer s H vs Q E hr h=>?_)
 ·obtain ⟨_,_,_,_,_,_,_,_,rfl,_⟩:=h
  rfl
 ·obtain ⟨s,lr,lp,as,l,p,v,N,rfl,A,hp,re,hv,hz,hb,k1,k2⟩:=h
  obtain ⟨dx,hi⟩:=A.ins
  have hsz:sizeLine = 16777216:=sizeLine_eq
  have hll:=re.ech.len
  have hal:=A.dat.len
  rw [List.length_map] at hal
  have hrl:(Wm.restR l v).length = N:=by rw [Wm.restR_len,hv]
  have hrb:Wm.below (Wm.restR l v):=Wm.subR_below _ _
  refine ⟨_,(pss_cons (ps_set (i:=2) sc_Space_grows_by.nd rfl (Or.inl rfl) (pe_meth (pv 0) T.cl_Space T.me_Space_rest (ok_Space_rest T) (hr.mono (by decide)) (T.F_Space_rest.binds b_Space_rest) .nil pass0 (pa_cons (pv 1) pa_nil)))
   (pss_cons (ps_set (i:=3) sc_Space_grows_by.nd rfl (Or.inr rfl) (pe_call (ok_place_of_first_number T) (hr.mono (by decide)) rfl T.m_place_of_first_number T.F_place_of_first_number.kp (T.F_place_of_first_number.binds b_place_of_first_number) .nil pass0 (pa_cons (pv 2) pa_nil)))
   (pss_cons (ps_if (pt_cmpR op_isN (pv 3) pe_non (nomark _)) (pss_one (ps_ret pe_bl)) pss_nil)
   (pss_cons (ps_set (i:=4) sc_Space_grows_by.nd rfl (Or.inr rfl) (pe_call (ok_multiple T) (hr.mono (by decide)) rfl T.m_multiple T.F_multiple.kp (T.F_multiple.binds b_multiple) .nil pass0 (pa_cons (pe_call (ok_inverse T) (hr.mono (by decide)) rfl T.m_inverse T.F_inverse.kp (T.F_inverse.binds b_inverse) .nil pass0 (pa_cons (pe_ix ix_list (pv 2) (pv 3) (fun _ _=>rfl)) pa_nil)) (pa_cons (pv 2) pa_nil))))
   (pss_cons (ps_fld (pv 0) (pe_lc (own:=[("own",5)]) rfl sc_Space_grows_by.nd (pi_list (pe_fld (pv 0) rfl)) (show BlkOk ["self","row","rest","pivot","fresh","own"] (defScope st_Space_grows_by) _ [("own",5)] from ⟨rfl,by decide +kernel,by decide +kernel,by decide +kernel,by decide +kernel⟩) (fun _ _ _ _ _=>(pg_name (i:=5) sc_Space_grows_by.nd rfl (Or.inl rfl))) (fun _ _ _ _ _=>pts_nil) (fun _ _ _ _ _=>(pe_call (ok_difference T) (hr.mono (by decide)) rfl T.m_difference T.F_difference.kp (T.F_difference.binds b_difference) .nil pass0 (pa_cons (pv 5) (pa_cons (pe_call (ok_multiple T) (hr.mono (by decide)) rfl T.m_multiple T.F_multiple.kp (T.F_multiple.binds b_multiple) .nil pass0 (pa_cons (pe_ix (show IxR _ (rIxL K) from ix_list) (pv 5) (pv 3) (fun _ _=>rfl)) (pa_cons (pv 4) pa_nil))) pa_nil))))) rfl)
   (pss_cons (ps_expr (pe_bm PySem.F.plainAttrs_list PySem.F.slot_list_append PySem.F.type_list_append mt_append (pe_fld (pv 0) rfl) (pa_cons (pv 4) pa_nil)))
   (pss_cons (ps_expr (pe_bm PySem.F.plainAttrs_list PySem.F.slot_list_append PySem.F.type_list_append mt_append (pe_fld (pv 0) rfl) (pa_cons (pv 3) pa_nil)))
   (pss_one (ps_ret pe_bl))))))))),?_⟩
  refine st_setL (xs:=nums (Wm.restR l v)) (evl_meth (ev_var rfl) hi (spF_no _ _ (by decide +kernel) (by decide +kernel)) (evap_v (v:=.ref p) (ev_var rfl) evap_nil) fun vs H' s' h=>?_) (Same.refl H) fun H1 r1 s1 hr10 hr1=>?_
  ·obtain ⟨us,rfl,rfl⟩:=h
   exact ⟨s,lr,lp,as,l,p,v,N,rfl,A.same s',s' _ _ hp,re,hv,hz,hb,rfl⟩
  refine st_set (v:=match (Wm.restR l v).findIdx? (fun a=>a != 0) with | none=>V.non | some i=>.int (i:Nat)) (ev_call (evap_v (v:=.ref r1) (ev_var rfl) evap_nil) fun vs H' s' h=>?_) (Same.refl H1) fun H2 s2=>?_
  ·obtain ⟨us,rfl,rfl⟩:=h
   exact ⟨r1,_,rfl,s' _ _ hr1,rfl⟩
  have s12:=s1.trans s2
  cases hf:(Wm.restR l v).findIdx? (fun a=>a != 0) with
  | none =>
   have hg:Wm.growR l v = none:=by unfold Wm.growR; rw [hf]; rfl
   refine (evt_test (ev_isN (ev_var rfl))) H2 (Same.refl H2) _ fun H3 s3=>?_
   refine itY (decide_eq_true rfl) ?_
   exact k1 hg H3 (s12.trans s3)
  | some pv =>
   have hg:Wm.growR l v = some (Wm.grown l pv (Wm.freshR (Wm.restR l v) pv)):=by unfold Wm.growR; rw [hf]; rfl
   obtain ⟨hpl,_,_⟩:=List.findIdx?_eq_some_iff_getElem.1 hf
   have hpN:pv < N:=by rw [← hrl]; exact hpl
   refine (evt_test (ev_isN (ev_var rfl))) H2 (Same.refl H2) _ fun H3 s3=>?_
   refine itN (decide_eq_false (by intro z; cases z)) ?_
   have s13:=s12.trans s3
   have hr3:H3 r1 = some (.lst (nums (Wm.restR l v))):=s3 _ _ (s2 _ _ hr1)
   have hget:(Wm.restR l v).getD pv 0 < Rc64.P:=Wm.below_getD hrb pv
   refine st_setL (xs:=nums (Wm.freshR (Wm.restR l v) pv)) (evl_call (evap_v (v:=.int ((Rc64.inverse ((Wm.restR l v).getD pv 0):Nat):Int)) (ev_call (evap_v (v:=.int (((Wm.restR l v).getD pv 0:Nat):Int)) (ev_ix (K:=K) (ev_var rfl) (ev_var rfl) (SqL.of hr3) (at_of (j:=pv) rfl (nums_get' hpl))) evap_nil) fun vs H' s' h=>?_) (evap_v (v:=.ref r1) (ev_var rfl) evap_nil)) fun vs H' s' h=>?_) (Same.refl H3) fun H4 f4 s4 hf40 hf4=>?_
   ·obtain ⟨us,rfl,rfl⟩:=h
    exact ⟨_,rfl,hget,rfl⟩
   ·obtain ⟨us,rfl,us',rfl,rfl⟩:=h
    exact ⟨_,r1,_,fun j=>Rc64.inverse ((Wm.restR l v).getD pv 0) * (Wm.restR l v).getD j 0 % Rc64.P,rfl,s' _ _ hr3,by omega,hrb,fun j _=>Wm.int_mul_mod _ _,rfl⟩
   have s14:=s13.trans s4
   have A4:=A.same s14
   obtain ⟨dx4,hi4⟩:=A4.ins
   have hfl:(Wm.freshR (Wm.restR l v) pv).length = N:=by unfold Wm.freshR; rw [Wm.mulR_len,hrl]
   generalize hF:Wm.freshR (Wm.restR l v) pv = fr at *
   refine st_fldM (evm_in (K:=K) (p:=lr) (xs:=as.map V.ref) (g:=fun i=>Wm.subR (Wm.rw' l i) (Wm.mulR ((Wm.rw' l i).getD pv 0) fr)) (ev_fld (ev_var rfl) hi4 T.cl_Space T.na_Space_rows (spF_rows ..)) (SqL.of A4.rows) (by rw [List.length_map]; omega) (fun _=>rfl) fun i x hx=>?_) (Same.refl H4) fun H5 r5 as5 s5 hr5 hR5 nd5 fr5=>?_
   ·obtain ⟨a,rfl,hi,_,ha⟩:=A4.dat.at hx
    rw [List.length_map] at hi
    rw [Wm.rw_map hi] at ha
    have hrow:=(re.mem i hi).1
    refine evl_call (evap_v (v:=.ref a) (ev_var rfl) (evap_l (xs:=nums (Wm.mulR ((Wm.rw' l i).getD pv 0) fr)) (evl_call (evap_v (v:=.int (((Wm.rw' l i).getD pv 0:Nat):Int)) (ev_ix (K:=K) (ev_var rfl) (ev_var rfl) (SqL.of ha) (at_of (j:=pv) rfl (nums_get' (by rw [hrow]; exact hpN)))) (evap_v (v:=.ref f4) (ev_var rfl) evap_nil)) fun vs H' s' h=>?_) evap_nil)) fun vs H' s' h=>?_
    ·obtain ⟨us,rfl,us',rfl,rfl⟩:=h
     exact ⟨_,f4,fr,fun j=>(Wm.rw' l i).getD pv 0 * fr.getD j 0 % Rc64.P,rfl,s' _ _ hf4,by omega,by rw [← hF]; exact Wm.mulR_below _ _,fun j _=>Wm.int_mul_mod _ _,rfl⟩
    ·obtain ⟨us,rfl,q,us',rfl,hq,rfl⟩:=h
     exact ⟨a,q,_,_,rfl,s' _ _ ha,hq,by rw [Wm.mulR_len,hrow,hfl],by omega,Wm.mulR_below _ _,rfl⟩
   have A5:=A4.same s5
   obtain ⟨dx5,hi5⟩:=A5.ins
   have hf5:=s5 _ _ hf4
   refine ⟨_,rfl,s,_,dx5,_,rfl,hi5,T.cl_Space,T.na_Space_rows,(by rw [spF_eq]; show 2 < 1000; decide),?_⟩
   rw [spF_put]
   have nr5:s ≠ r5:=fun z=>by
    have:=fr5 r5 (List.mem_cons_self ..)
    rw [← z,hi4] at this; cases this
   have hr6:upd H5 s (.ins t.c_Space dx5 (spF r5 lp)) r5 = some (.lst (as5.map V.ref)):=by rw [upd_ne (Ne.symm nr5)]; exact hr5
   have hl5:as5.length = l.length:=by
    have:=hR5.len
    rw [List.length_map,List.length_range,List.length_map] at this
    omega
   refine ⟨_,rfl,s,_,dx5,_,_,rfl,upd_same,T.cl_Space,T.na_Space_rows,spF_rows ..,.inl ⟨rfl,_,SqL.of hr6⟩,_,rfl,r5,_,_,rfl,rfl,hr6,by rw [List.length_map]; omega,?_⟩
   have hp6:upd H5 s (.ins t.c_Space dx5 (spF r5 lp)) lp = some (.lst (nums (l.map (·.1)))):=by
    rw [upd_ne fun z=>by rw [z] at A5; rw [A5.pivs] at hi5; cases hi5]; exact A5.pivs
   have nrp:lp ≠ r5:=fun z=>by
    have:=fr5 r5 (List.mem_cons_self ..)
    rw [← z,A4.pivs] at this; cases this
   have hs7:upd (upd H5 s (.ins t.c_Space dx5 (spF r5 lp))) r5 (.lst (as5.map V.ref ++ [.ref f4])) s = some (.ins t.c_Space dx5 (spF r5 lp)):=by rw [upd_ne nr5,upd_same]
   have hp7:upd (upd H5 s (.ins t.c_Space dx5 (spF r5 lp))) r5 (.lst (as5.map V.ref ++ [.ref f4])) lp = some (.lst (nums (l.map (·.1)))):=by rw [upd_ne nrp]; exact hp6
   refine ⟨_,rfl,s,_,dx5,_,_,rfl,hs7,T.cl_Space,T.na_Space_pivots,spF_pivots ..,.inl ⟨rfl,_,SqL.of hp7⟩,_,rfl,lp,_,_,rfl,rfl,hp7,by rw [nums_len,List.length_map]; omega,?_⟩
   have nsp:s ≠ lp:=fun z=>by have:=A5.pivs; rw [← z,hi5] at this; cases this
   have nf5:f4 ≠ r5:=fun z=>by
    have:=fr5 r5 (List.mem_cons_self ..)
    rw [← z,hf4] at this; cases this
   have nfs:f4 ≠ s:=fun z=>by rw [z,hi4] at hf4; cases hf4
   have nfp:f4 ≠ lp:=fun z=>by
    rw [z] at hf40
    rw [(A.same s13).pivs] at hf40; cases hf40
   refine k2 _ hg _ r5 (as5 ++ [f4]) ⟨⟨dx5,?_⟩,?_,?_,?_⟩ (fun b o e n1 n2=>?_) fun b hb=>?_
   ·rw [upd_ne nsp]; exact hs7
   ·rw [upd_ne (Ne.symm nrp),upd_same,List.map_append]; rfl
   ·rw [upd_same,grown_fst]
    show _ = some (HO.lst (nums _))
    rw [← nums_app]; rfl
   ·rw [grown_snd]
    rw [List.length_map,hal] at hR5
    refine Rows.snoc (hR5.frame fun b hb=>?_) ?_
    ·have f:=fr5 b (List.mem_cons_of_mem _ hb)
     have q1:b ≠ lp:=fun z=>by rw [z,A4.pivs] at f; cases f
     have q2:b ≠ r5:=fun z=>(List.nodup_cons.1 nd5).1 (z ▸ hb)
     have q3:b ≠ s:=fun z=>by rw [z,hi4] at f; cases f
     rw [upd_ne q1,upd_ne q2,upd_ne q3]
    ·rw [upd_ne nfp,upd_ne nf5,upd_ne nfs]; exact hf5
   ·have e5:=s5 _ _ (s14 _ _ e)
    have n5:b ≠ r5:=fun z=>by
     have:=fr5 r5 (List.mem_cons_self ..)
     rw [← z,s14 _ _ e] at this; cases this
    rw [upd_ne n2,upd_ne n5,upd_ne n1]; exact e5
   ·rcases List.mem_cons.1 hb with e | hb
    ·rw [e]; exact s14.free (fr5 r5 (List.mem_cons_self ..))
    ·rcases List.mem_append.1 hb with hb | hb
     ·exact s14.free (fr5 b (List.mem_cons_of_mem _ hb))
     ·have:b = f4:=by simpa using hb
      rw [this]; exact s13.free hf40
end
end Wp
namespace Wp
open PySem PySem.Spec PyProof.Rows L2
open PySem.W (Codec)
noncomputable def rdF (am s lw lh:Addr):List (Str × V):=putF "held" (.ref lh) (putF "words" (.ref lw) (putF "space" (.ref s) (putF "machine" (.ref am) [])))
theorem rdF_machine (am s lw lh:Addr):(rdF am s lw lh).lookup ("machine":Str) = some (.ref am):=by
 unfold rdF
 rw [look_ne _ _ (by decide +kernel),look_ne _ _ (by decide +kernel),look_ne _ _ (by decide +kernel),look_same]
theorem rdF_space (am s lw lh:Addr):(rdF am s lw lh).lookup ("space":Str) = some (.ref s):=by
 unfold rdF
 rw [look_ne _ _ (by decide +kernel),look_ne _ _ (by decide +kernel),look_same]
theorem rdF_words (am s lw lh:Addr):(rdF am s lw lh).lookup ("words":Str) = some (.ref lw):=by
 unfold rdF
 rw [look_ne _ _ (by decide +kernel),look_same]
theorem rdF_held (am s lw lh:Addr):(rdF am s lw lh).lookup ("held":Str) = some (.ref lh):=look_same ..
theorem rdF_no (am s lw lh:Addr) {m:Str} (h1:¬ m = "machine") (h2:¬ m = "space") (h3:¬ m = "words") (h4:¬ m = "held"):(rdF am s lw lh).lookup m = none:=by
 unfold rdF
 rw [look_ne _ _ h4,look_ne _ _ h3,look_ne _ _ h2,look_ne _ _ h1]
 rfl
structure ReachAt (t:Adr) (H:Hp) (rd am s lr lp lw lh:Addr) (as wa ha:List Addr) (st:Wm.RSt):Prop where
 ins:∃ dx,H rd = some (.ins t.c_Reached dx (rdF am s lw lh))
 spc:SpaceAt t H s lr lp as st.l
 wl:H lw = some (.lst (wa.map V.ref))
 hl:H lh = some (.lst (ha.map V.ref))
 wd:Rows H wa st.ws
 hd:Rows H ha st.hs
 npw:lp ≠ lw
 nph:lp ≠ lh
 nwh:lw ≠ lh
 ow:∀ b,b ∈ wa ++ ha → b ≠ lp ∧ b ≠ lw ∧ b ≠ lh
theorem ReachAt.same {t:Adr} {H H':Hp} {rd am s lr lp lw lh:Addr} {as wa ha:List Addr} {st:Wm.RSt} (R:ReachAt t H rd am s lr lp lw lh as wa ha st) (k:Same H H'):ReachAt t H' rd am s lr lp lw lh as wa ha st:=by
 obtain ⟨dx,hi⟩:=R.ins
 exact ⟨⟨dx,k _ _ hi⟩,R.spc.same k,k _ _ R.wl,k _ _ R.hl,R.wd.same k,R.hd.same k,R.npw,R.nph,R.nwh,R.ow⟩
theorem ReachAt.rds {t:Adr} {H:Hp} {rd am s lr lp lw lh:Addr} {as wa ha:List Addr} {st:Wm.RSt} (R:ReachAt t H rd am s lr lp lw lh as wa ha st):rd ≠ s:=fun z=>by
 obtain ⟨dx,hi⟩:=R.ins
 obtain ⟨ds,hs⟩:=R.spc.ins
 rw [z,hs] at hi
 injection hi with hi
 injection hi with _ _ hi
 have h1:=spF_no lr lp (m:="words") (by decide +kernel) (by decide +kernel)
 rw [hi,rdF_words] at h1
 cases h1
section
variable {P:Program} {w:World} {K:PySem.W.Frag} {mg:Str → Option Value} {base:Heap} {t:Adr}
noncomputable def sp_look_at (t:Adr):Sp:=fun vs H Q _=>∃ (rd am s lr lp lw lh:Addr) (as wa ha:List Addr) (st:Wm.RSt) (pw pz:Addr) (w v:List Nat) (N:Nat),vs = [.ref rd,.ref pw,.ref pz] ∧ ReachAt t H rd am s lr lp lw lh as wa ha st ∧ H pw = some (.lst (nums w)) ∧ H pz = some (.lst (nums v)) ∧
 (pw ≠ lp ∧ pw ≠ lw ∧ pw ≠ lh) ∧ (pz ≠ lp ∧ pz ≠ lw ∧ pz ≠ lh) ∧ Wm.RE N st.l ∧ v.length = N ∧ N ≤ 1000 ∧ Wm.below v ∧ st.ws.length ≤ 1000 ∧ st.hs.length ≤ 1000 ∧
 ∀ H' lr' as' wa' ha',ReachAt t H' rd am s lr' lp lw lh as' wa' ha' (Wm.look st w v) → (∀ b o,H b = some o → b ∉ [s,lp,lw,lh] → H' b = some o) → Q .non H'
theorem ok_Reached_look_at (T:Txt K mg t):FnOk P w K mg base CX0 8 t.f_Reached_look_at t.d_Reached_look_at ["self","word","held"] (sp_look_at t):=by
 refine T.F_Reached_look_at.ok sc_Reached_look_at (fun vs H Q E h=>?_) (fun cdv A outer s H vs Q E hr h=>?_)
 ·obtain ⟨_,_,_,_,_,_,_,_,_,_,_,_,_,_,_,_,rfl,_⟩:=h
  rfl
 ·obtain ⟨rd,am,s,lr,lp,lw,lh,as,wa,ha,st,pw,pz,w,v,N,rfl,R,hpw,hpv,nw,nv,re,hv,hz,hb,z1,z2,k⟩:=h
  have hsz:sizeLine = 16777216:=sizeLine_eq
  obtain ⟨dx,hi⟩:=R.ins
  obtain ⟨ds,hs⟩:=R.spc.ins
  refine ⟨_,(pss_one (ps_if (pt_truth (pe_meth (pe_fld (pv 0) rfl) T.cl_Space T.me_Space_grows_by (ok_Space_grows_by T) (hr.mono (by decide)) (T.F_Space_grows_by.binds b_Space_grows_by) .nil pass0 (pa_cons (pv 2) pa_nil)) (fun _=>rfl)) (pss_cons (ps_expr (pe_bm PySem.F.plainAttrs_list PySem.F.slot_list_append PySem.F.type_list_append mt_append (pe_fld (pv 0) rfl) (pa_cons (pv 1) pa_nil)))
   (pss_one (ps_expr (pe_bm PySem.F.plainAttrs_list PySem.F.slot_list_append PySem.F.type_list_append mt_append (pe_fld (pv 0) rfl) (pa_cons (pv 2) pa_nil))))) pss_nil)),?_⟩
  refine ⟨_,rfl,rd,_,dx,_,_,rfl,hi,T.cl_Reached,T.na_Reached_space,rdF_space ..,s,ds,_,rfl,hs,spF_no _ _ (by decide +kernel) (by decide +kernel),_,rfl,s,lr,lp,as,st.l,pz,v,N,rfl,R.spc,hpv,re,hv,hz,hb,fun hg H1 s1=>⟨false,rfl,itN rfl ?_⟩,fun l' hg H1 lr' as' A1 kp fr=>⟨true,rfl,itY rfl ?_⟩⟩
  ·refine k H1 lr as wa ha ?_ fun b o e _=>s1 _ _ e
   have:Wm.look st w v = st:=by unfold Wm.look; rw [hg]
   rw [this]
   exact R.same s1
  ·have el:Wm.look st w v = ⟨l',st.ws ++ [w],st.hs ++ [v]⟩:=by unfold Wm.look; rw [hg]
   have kd:∀ b xs,H b = some (.lst xs) → b ≠ lp → H1 b = some (.lst xs):=fun b xs e n=>kp b _ e (fun z=>by rw [z,hs] at e; cases e) n
   have hrl:rd ≠ lp:=fun z=>by have:=R.spc.pivs; rw [← z,hi] at this; cases this
   have hi1:H1 rd = _:=kp rd _ hi R.rds hrl
   have hw1:=kd lw _ R.wl (Ne.symm R.npw)
   have hl1:=kd lh _ R.hl (Ne.symm R.nph)
   have nrw:rd ≠ lw:=fun z=>by rw [z,hw1] at hi1; cases hi1
   have nrh:rd ≠ lh:=fun z=>by rw [z,hl1] at hi1; cases hi1
   have wl:=R.wd.len
   have hl:=R.hd.len
   refine ⟨_,rfl,rd,_,dx,_,_,rfl,hi1,T.cl_Reached,T.na_Reached_words,rdF_words ..,.inl ⟨rfl,_,SqL.of hw1⟩,_,rfl,lw,_,_,rfl,rfl,hw1,by rw [List.length_map]; omega,?_⟩
   have hi2:upd H1 lw (.lst (wa.map V.ref ++ [.ref pw])) rd = _:=(upd_ne nrw).trans hi1
   have hl2:upd H1 lw (.lst (wa.map V.ref ++ [.ref pw])) lh = _:=(upd_ne (Ne.symm R.nwh)).trans hl1
   refine ⟨_,rfl,rd,_,dx,_,_,rfl,hi2,T.cl_Reached,T.na_Reached_held,rdF_held ..,.inl ⟨rfl,_,SqL.of hl2⟩,_,rfl,lh,_,_,rfl,rfl,hl2,by rw [List.length_map]; omega,?_⟩
   have up:∀ b,b ≠ lw → b ≠ lh → upd (upd H1 lw (.lst (wa.map V.ref ++ [.ref pw]))) lh (.lst (ha.map V.ref ++ [.ref pz])) b = H1 b:=fun b n1 n2=>by rw [upd_ne n2,upd_ne n1]
   have frn:∀ b,b ∈ lr' :: as' → b ≠ lw ∧ b ≠ lh:=fun b hb=>by
    have f:=fr b hb
    exact ⟨fun z=>(by rw [z,R.wl] at f; cases f),fun z=>(by rw [z,R.hl] at f; cases f)⟩
   obtain ⟨ds1,hs1⟩:=A1.ins
   have nsw:s ≠ lw:=fun z=>by rw [z,hw1] at hs1; cases hs1
   have nsh:s ≠ lh:=fun z=>by rw [z,hl1] at hs1; cases hs1
   refine k _ lr' as' (wa ++ [pw]) (ha ++ [pz]) ?_ fun b o e n=>?_
   ·rw [el]
    refine ⟨⟨dx,?_⟩,A1.frame fun b hb=>?_,?_,?_,?_,?_,R.npw,R.nph,R.nwh,fun b hb=>?_⟩
    ·rw [up rd nrw nrh]; exact hi1
    ·rcases List.mem_cons.1 hb with e | hb
     ·rw [e,up s nsw nsh]
     rcases List.mem_cons.1 hb with e | hb
     ·rw [e,up lr' (frn _ (List.mem_cons_self ..)).1 (frn _ (List.mem_cons_self ..)).2]
     rcases List.mem_cons.1 hb with e | hb
     ·rw [e,up lp R.npw R.nph]
     ·rw [up b (frn _ (List.mem_cons_of_mem _ hb)).1 (frn _ (List.mem_cons_of_mem _ hb)).2]
    ·rw [upd_ne R.nwh,upd_same,List.map_append]; rfl
    ·rw [upd_same,List.map_append]; rfl
    ·refine Rows.snoc ?_ ?_
     ·have q:Rows H1 wa st.ws:=R.wd.frame fun b hb=>by
       have o:=R.ow b (List.mem_append_left _ hb)
       obtain ⟨j,hj⟩:=List.mem_iff_getElem?.1 hb
       cases e:H b with
       | none=>exact absurd e (R.wd.none b hb)
       | some o'=>exact kp b _ e (fun z=>by
         obtain ⟨i,hi'⟩:=List.mem_iff_getElem?.1 hb
         have hlt:i < st.ws.length:=by rw [← wl]; exact (List.getElem?_eq_some_iff.mp hi').1
         obtain ⟨a,ea,hA⟩:=R.wd.getA hlt
         rw [hi'] at ea
         obtain rfl:=Option.some.inj ea
         rw [z,hs] at hA; cases hA) o.1
      exact q.frame fun b hb=>up b (R.ow b (List.mem_append_left _ hb)).2.1 (R.ow b (List.mem_append_left _ hb)).2.2
     ·rw [up pw nw.2.1 nw.2.2]; exact kd pw _ hpw nw.1
    ·refine Rows.snoc ?_ ?_
     ·have q:Rows H1 ha st.hs:=R.hd.frame fun b hb=>by
       have o:=R.ow b (List.mem_append_right _ hb)
       cases e:H b with
       | none=>exact absurd e (R.hd.none b hb)
       | some o'=>exact kp b _ e (fun z=>by
         obtain ⟨i,hi'⟩:=List.mem_iff_getElem?.1 hb
         have hlt:i < st.hs.length:=by rw [← hl]; exact (List.getElem?_eq_some_iff.mp hi').1
         obtain ⟨a,ea,hA⟩:=R.hd.getA hlt
         rw [hi'] at ea
         obtain rfl:=Option.some.inj ea
         rw [z,hs] at hA; cases hA) o.1
      exact q.frame fun b hb=>up b (R.ow b (List.mem_append_right _ hb)).2.1 (R.ow b (List.mem_append_right _ hb)).2.2
     ·rw [up pz nv.2.1 nv.2.2]; exact kd pz _ hpv nv.1
    ·rcases List.mem_append.1 hb with hb | hb
     ·rcases List.mem_append.1 hb with hb | hb
      ·exact R.ow b (List.mem_append_left _ hb)
      ·have:b = pw:=by simpa using hb
       rw [this]; exact nw
     ·rcases List.mem_append.1 hb with hb | hb
      ·exact R.ow b (List.mem_append_right _ hb)
      ·have:b = pz:=by simpa using hb
       rw [this]; exact nv
   ·simp only [List.mem_cons,List.not_mem_nil,or_false,not_or] at n
    rw [up b n.2.2.1 n.2.2.2]
    exact kp b o e n.1 n.2.1
noncomputable def KeepX (rd:Addr) (H H':Hp):Prop:=∀ b o,H b = some o → b ≠ rd → H' b = some o
theorem KeepX.trans {rd:Addr} {H H1 H2:Hp} (h:KeepX rd H H1) (g:KeepX rd H1 H2):KeepX rd H H2:=fun b o e n=>g b o (h b o e n) n
theorem KeepX.upd {rd:Addr} {H:Hp} {o:HO}:KeepX rd H (upd H rd o):=fun b o e n=>by rw [upd_ne n]; exact e
theorem KeepX.of {rd:Addr} {H H':Hp} (s:Same H H'):KeepX rd H H':=fun b o e _=>s b o e
theorem Mach.keep {C rd:Addr} {H H':Hp} {a:Addr} {m:Wm.PM} {S:List Addr} (h:Mach C H a m S) (k:KeepX rd H H') (hr:rd ∉ S):Mach C H' a m S:=h.frame fun b hb=>by
 cases e:H b with
 | none=>exact absurd e (h.none b hb)
 | some o=>exact k b o e fun z=>hr (z ▸ hb)
noncomputable def sp_Reached_init (t:Adr):Sp:=fun vs H Q _=>∃ (rd dx am:Addr) (m:Wm.PM) (S:List Addr),vs = [.ref rd,.ref am] ∧ H rd = some (.ins t.c_Reached dx []) ∧ Mach t.c_Machine H am m S ∧ rd ∉ S ∧ m.n ≤ 1000 ∧
 ∀ H' s lr lp lw lh as wa ha,ReachAt t H' rd am s lr lp lw lh as wa ha (Wm.start m.mach) → KeepX rd H H' → (∀ b,b ∈ [s,lp,lw,lh] → H b = none) → Q .non H'
theorem ok_Reached_init (T:Txt K mg t):FnOk P w K mg base CX0 10 t.f_Reached_init t.d_Reached_init ["self","machine"] (sp_Reached_init t):=by
 refine T.F_Reached_init.ok sc_Reached_init (fun vs H Q E h=>?_) (fun cdv A outer s H vs Q E hr h=>?_)
 ·obtain ⟨_,_,_,_,_,rfl,_⟩:=h
  rfl
 ·obtain ⟨rd,dx,am,m,S,rfl,hrd,M,hrS,hn,k⟩:=h
  refine ⟨_,(pss_cons (ps_fld (pv 0) (pv 1) rfl)
   (pss_cons (ps_fld (pv 0) (pe_make0 T.mk_Space (ok_Space_init T) (hr.mono (by decide)) rfl T.m_Space (T.F_Space_init.binds b_Space_init) .nil pass0 ) rfl)
   (pss_cons (ps_fld (pv 0) (pe_lst pa_nil) rfl)
   (pss_cons (ps_fld (pv 0) (pe_lst pa_nil) rfl)
   (pss_one (ps_expr (pe_meth (pv 0) T.cl_Reached T.me_Reached_look_at (ok_Reached_look_at T) (hr.mono (by decide)) (T.F_Reached_look_at.binds b_Reached_look_at) .nil pass0 (pa_cons (pe_lst pa_nil) (pa_cons (pe_fld (pv 1) rfl) pa_nil))))))))),?_⟩
  refine ⟨_,rfl,_,rfl,rd,_,dx,_,rfl,hrd,T.cl_Reached,T.na_Reached_machine,(by show 0 < 1000; decide),?_⟩
  have kx1:KeepX rd H (upd H rd (.ins t.c_Reached dx (putF "machine" (.ref am) []))):=KeepX.upd
  have hr1:upd H rd (.ins t.c_Reached dx (putF "machine" (.ref am) [])) rd = _:=upd_same
  have mo1:∀ b,upd H rd (.ins t.c_Reached dx (putF "machine" (.ref am) [])) b = none → H b = none:=fun b hb=>(upd_none hb).2
  generalize upd H rd (.ins t.c_Reached dx (putF "machine" (.ref am) [])) = H1 at kx1 hr1 mo1 ⊢
  intro x d hx hd hne
  refine ⟨x,d,rfl,upd_same,fun H2 lr lp A2 hlr hlp kp2=>⟨rfl,?_⟩⟩
  have s12:Same H1 H2:=fun b o e=>kp2 b o (by rw [upd_ne (ne_of_none e hx),upd_ne (ne_of_none e hd)]; exact e) (ne_of_none e hx)
  have hlr1:H1 lr = none:=(upd_none (upd_none hlr).2).2
  have hlp1:H1 lp = none:=(upd_none (upd_none hlp).2).2
  have nx:x ≠ rd:=fun z=>by rw [z,hr1] at hx; cases hx
  have nlr:lr ≠ rd:=fun z=>by rw [z,hr1] at hlr1; cases hlr1
  have nlp:lp ≠ rd:=fun z=>by rw [z,hr1] at hlp1; cases hlp1
  have hr2:=s12 _ _ hr1
  refine ⟨_,rfl,rd,_,dx,_,rfl,hr2,T.cl_Reached,T.na_Reached_space,(by show 1 < 1000; decide),?_⟩
  have kx3:KeepX rd H2 (upd H2 rd (.ins t.c_Reached dx (putF "space" (.ref x) (putF "machine" (.ref am) [])))):=KeepX.upd
  have hr3:upd H2 rd (.ins t.c_Reached dx (putF "space" (.ref x) (putF "machine" (.ref am) []))) rd = _:=upd_same
  have A3:SpaceAt t (upd H2 rd (.ins t.c_Reached dx (putF "space" (.ref x) (putF "machine" (.ref am) [])))) x lr lp [] []:=A2.frame fun b hb=>upd_ne fun z=>by
   simp only [List.mem_cons,List.not_mem_nil,or_false] at hb
   rcases hb with e | e | e
   ·exact nx (e ▸ z)
   ·exact nlr (e ▸ z)
   ·exact nlp (e ▸ z)
  have mo3:∀ b,upd H2 rd (.ins t.c_Reached dx (putF "space" (.ref x) (putF "machine" (.ref am) []))) b = none → H2 b = none:=fun b hb=>(upd_none hb).2
  generalize upd H2 rd (.ins t.c_Reached dx (putF "space" (.ref x) (putF "machine" (.ref am) []))) = H3 at kx3 hr3 A3 mo3 ⊢
  refine ⟨Nat.zero_le _,fun lw hlw=>?_⟩
  have s34:Same H3 (upd H3 lw (.lst [])):=fun c u e=>by rw [upd_ne (ne_of_none e hlw)]; exact e
  have hw4:upd H3 lw (.lst []) lw = some (.lst []):=upd_same
  generalize upd H3 lw (.lst []) = H4 at s34 hw4 ⊢
  have hr4:=s34 _ _ hr3
  refine ⟨_,rfl,rd,_,dx,_,rfl,hr4,T.cl_Reached,T.na_Reached_words,(by show 2 < 1000; decide),?_⟩
  have nlw:lw ≠ rd:=fun z=>by rw [z,hr3] at hlw; cases hlw
  have kx5:KeepX rd H4 (upd H4 rd (.ins t.c_Reached dx (putF "words" (.ref lw) (putF "space" (.ref x) (putF "machine" (.ref am) []))))):=KeepX.upd
  have hr5:upd H4 rd (.ins t.c_Reached dx (putF "words" (.ref lw) (putF "space" (.ref x) (putF "machine" (.ref am) [])))) rd = _:=upd_same
  generalize upd H4 rd (.ins t.c_Reached dx (putF "words" (.ref lw) (putF "space" (.ref x) (putF "machine" (.ref am) [])))) = H5 at kx5 hr5 ⊢
  have hw5:=kx5 _ _ hw4 nlw
  refine ⟨Nat.zero_le _,fun lh hlh=>?_⟩
  have s56:Same H5 (upd H5 lh (.lst [])):=fun c u e=>by rw [upd_ne (ne_of_none e hlh)]; exact e
  have hh6:upd H5 lh (.lst []) lh = some (.lst []):=upd_same
  generalize upd H5 lh (.lst []) = H6 at s56 hh6 ⊢
  have hr6:=s56 _ _ hr5
  refine ⟨_,rfl,rd,_,dx,_,rfl,hr6,T.cl_Reached,T.na_Reached_held,(by show 3 < 1000; decide),?_⟩
  have nlh:lh ≠ rd:=fun z=>by rw [z,hr5] at hlh; cases hlh
  have nwh:lw ≠ lh:=fun z=>by rw [← z,hw5] at hlh; cases hlh
  have kx7:KeepX rd H6 (upd H6 rd (.ins t.c_Reached dx (putF "held" (.ref lh) (putF "words" (.ref lw) (putF "space" (.ref x) (putF "machine" (.ref am) [])))))):=KeepX.upd
  have hr7:upd H6 rd (.ins t.c_Reached dx (putF "held" (.ref lh) (putF "words" (.ref lw) (putF "space" (.ref x) (putF "machine" (.ref am) []))))) rd = some (.ins t.c_Reached dx (rdF am x lw lh)):=upd_same
  generalize upd H6 rd (.ins t.c_Reached dx (putF "held" (.ref lh) (putF "words" (.ref lw) (putF "space" (.ref x) (putF "machine" (.ref am) []))))) = H7 at kx7 hr7 ⊢
  have hw7:=kx7 _ _ (s56 _ _ hw5) nlw
  have hh7:=kx7 _ _ hh6 nlh
  have kx37:KeepX rd H3 H7:=(((KeepX.of s34).trans kx5).trans (KeepX.of s56)).trans kx7
  have A7:SpaceAt t H7 x lr lp [] []:=A3.frame fun b hb=>by
   have hb0:b ≠ rd:=fun z=>by
    simp only [List.mem_cons,List.not_mem_nil,or_false] at hb
    rcases hb with e | e | e
    ·exact nx (e ▸ z)
    ·exact nlr (e ▸ z)
    ·exact nlp (e ▸ z)
   cases e:H3 b with
   | some o=>exact kx37 b o e hb0
   | none =>
    simp only [List.mem_cons,List.not_mem_nil,or_false] at hb
    obtain ⟨dz,hz⟩:=A3.ins
    rcases hb with q | q | q
    ·rw [q,hz] at e; cases e
    ·rw [q,A3.rows] at e; cases e
    ·rw [q,A3.pivs] at e; cases e
  have kx07:KeepX rd H H7:=((kx1.trans (KeepX.of s12)).trans kx3).trans kx37
  have M7:=M.keep kx07 hrS
  have fr:∀ b,b ∈ [x,lp,lw,lh] → H b = none:=fun b hb=>by
   simp only [List.mem_cons,List.not_mem_nil,or_false] at hb
   rcases hb with e | e | e | e
   ·rw [e]; exact mo1 _ hx
   ·rw [e]; exact mo1 _ hlp1
   ·rw [e]; exact mo1 _ (s12.free (mo3 _ hlw))
   ·rw [e]
    refine mo1 _ (s12.free (mo3 _ (s34.free ?_)))
    cases q:H4 lh with
    | none=>rfl
    | some o =>
     have:=kx5 _ _ q nlh
     rw [hlh] at this; cases this
  have npw:lp ≠ lw:=fun z=>by rw [← z,A3.pivs] at hlw; cases hlw
  have nph:lp ≠ lh:=fun z=>by
   have:=kx5 _ _ (s34 _ _ A3.pivs) nlp
   rw [z,hlh] at this; cases this
  have R7:ReachAt t H7 rd am x lr lp lw lh [] [] [] ⟨[],[],[]⟩:=⟨⟨dx,hr7⟩,A7,hw7,hh7,trivial,trivial,npw,nph,nwh,fun b hb=>by cases hb⟩
  obtain ⟨dm,lf,ll,lhh,ps,MA7,hS7⟩:=id M7
  refine ⟨_,rfl,rd,dx,_,rfl,hr7,rdF_no _ _ _ _ (by decide +kernel) (by decide +kernel) (by decide +kernel) (by decide +kernel),Nat.zero_le _,fun pw hpw=>?_⟩
  have s78:Same H7 (upd H7 pw (.lst [])):=fun c u e=>by rw [upd_ne (ne_of_none e hpw)]; exact e
  have hw8:upd H7 pw (.lst []) pw = some (.lst []):=upd_same
  generalize upd H7 pw (.lst []) = H8 at s78 hw8 ⊢
  have MA8:=MA7.same s78
  have R8:=R7.same s78
  have hlfS:lf ∈ S:=by rw [hS7]; simp
  have lfn:∀ b,b ∈ [x,lp,lw,lh] → lf ≠ b:=fun b hb z=>M.none lf hlfS (by rw [z]; exact fr b hb)
  refine ⟨_,rfl,am,_,dm,_,_,rfl,MA8.ins,T.cl_Machine,T.na_Machine_firsts,mF_firsts ..,rd,am,x,lr,lp,lw,lh,[],[],[],⟨[],[],[]⟩,pw,lf,[],m.f,m.n,rfl,R8,hw8,MA8.fst,⟨?_,?_,?_⟩,⟨lfn _ (by simp),lfn _ (by simp),lfn _ (by simp)⟩,Wm.RE.nil _,MA8.ok.fl,hn,MA8.ok.fb,Nat.zero_le _,Nat.zero_le _,fun H9 lr' as' wa' ha' R9 kp9=>?_⟩
  ·intro z; rw [z,A7.pivs] at hpw; cases hpw
  ·intro z; rw [z,hw7] at hpw; cases hpw
  ·intro z; rw [z,hh7] at hpw; cases hpw
  ·refine k H9 x lr' lp lw lh as' wa' ha' R9 (fun b o e n=>kp9 b o (s78 _ _ (kx07 b o e n)) fun z=>?_) fr
   have:=fr b z
   rw [e] at this; cases this
end
end Wp
namespace Wp
open PySem PySem.Spec PyProof.Rows L2
open PySem.W (Codec)
section
variable {P:Program} {w:World} {K:PySem.W.Frag} {mg:Str → Option Value} {base:Heap} {t:Adr}
noncomputable def Keep4 (s lp lw lh:Addr) (H H':Hp):Prop:=∀ b o,H b = some o → b ∉ [s,lp,lw,lh] → H' b = some o
theorem Keep4.trans {s lp lw lh:Addr} {H H1 H2:Hp} (h:Keep4 s lp lw lh H H1) (g:Keep4 s lp lw lh H1 H2):Keep4 s lp lw lh H H2:=fun b o e n=>g b o (h b o e n) n
theorem Keep4.of {s lp lw lh:Addr} {H H':Hp} (k:Same H H'):Keep4 s lp lw lh H H':=fun b o e _=>k b o e
theorem Mach.keep4 {C s lp lw lh:Addr} {H H':Hp} {a:Addr} {m:Wm.PM} {S:List Addr} (h:Mach C H a m S) (k:Keep4 s lp lw lh H H') (hr:∀ b,b ∈ S → b ∉ [s,lp,lw,lh]):Mach C H' a m S:=h.frame fun b hb=>by
 cases e:H b with
 | none=>exact absurd e (h.none b hb)
 | some o=>exact k b o e (hr b hb)
noncomputable def sp_go_on_from (t:Adr):Sp:=fun vs H Q _=>∃ (rd am s lr lp lw lh:Addr) (as wa ha:List Addr) (st:Wm.RSt) (m:Wm.PM) (S:List Addr) (kk:Nat),vs = [.ref rd,.int kk] ∧ ReachAt t H rd am s lr lp lw lh as wa ha st ∧ Mach t.c_Machine H am m S ∧ (∀ b,b ∈ S → b ∉ [s,lp,lw,lh]) ∧ m.n ≤ 1000 ∧ m.k ≤ 1000 ∧ Wm.Inv m.mach kk 0 st ∧ kk < st.ws.length ∧
 ∀ H' lr' as' wa' ha' st',ReachAt t H' rd am s lr' lp lw lh as' wa' ha' st' → Mach t.c_Machine H' am m S → Wm.Inv m.mach (kk + 1) 0 st' → st'.ws.take (kk + 1) = st.ws.take (kk + 1) → Keep4 s lp lw lh H H' → Q .non H'
theorem ok_Reached_go_on_from (T:Txt K mg t):FnOk P w K mg base CX0 11 t.f_Reached_go_on_from t.d_Reached_go_on_from ["self","k"] (sp_go_on_from t):=by
 refine T.F_Reached_go_on_from.ok sc_Reached_go_on_from (fun vs H Q E h=>?_) (fun cdv A outer s H vs Q E hr h=>?_)
 ·obtain ⟨_,_,_,_,_,_,_,_,_,_,_,_,_,_,rfl,_⟩:=h
  rfl
 ·obtain ⟨rd,am,s,lr,lp,lw,lh,as,wa,ha,st,m,S,kk,rfl,R,M,hS,hn,hk,inv,hlt,k⟩:=h
  have hsz:sizeLine = 16777216:=sizeLine_eq
  obtain ⟨dx,hi⟩:=R.ins
  obtain ⟨dm,lf,ll,lhh,ps,MA,hSe⟩:=id M
  refine ⟨_,(pss_one (ps_for PassesOwn.never rfl (pi_range1 rfl T.b_range (pa_cons (pe_fld (pe_fld (pv 0) rfl) rfl) pa_nil)) (pg_name (i:=2) sc_Reached_go_on_from.nd rfl (Or.inl rfl)) (pss_one (ps_expr (pe_meth (pv 0) T.cl_Reached T.me_Reached_look_at (ok_Reached_look_at T) (hr.mono (by decide)) (T.F_Reached_look_at.binds b_Reached_look_at) .nil pass0 (pa_cons (pe_op op_cat (pe_ix ix_list (pe_fld (pv 0) rfl) (pv 1) (fun _ _=>rfl)) (pe_lst (pa_cons (pv 2) pa_nil))) (pa_cons (pe_call (ok_handed_on T) (hr.mono (by decide)) rfl T.m_handed_on T.F_handed_on.kp (T.F_handed_on.binds b_handed_on) .nil pass0 (pa_cons (pe_fld (pv 0) rfl) (pa_cons (pe_ix ix_list (pe_fld (pv 0) rfl) (pv 1) (fun _ _=>rfl)) (pa_cons (pv 2) pa_nil)))) pa_nil))))))),?_⟩
  refine st_forR (eva_1 (ev_letters T (ev_fld (ev_var rfl) hi T.cl_Reached T.na_Reached_machine (rdF_machine ..)) MA)) (Same.refl H) fun H1 s1=>⟨m.k,rfl,by omega,by omega,?_⟩
  obtain ⟨x,hx⟩:∃ x,st.ws[kk]? = some x:=⟨_,List.getElem?_eq_getElem hlt⟩
  obtain ⟨v,hv⟩:∃ v,st.hs[kk]? = some v:=⟨_,List.getElem?_eq_getElem (by rw [inv.lh]; exact hlt)⟩
  have hold:=inv.hold kk x v hx hv
  refine for_range (lo:=0) (n:=m.k) (fun i σ H'=>(∃ v2:Option V,σ = [some (.ref rd),some (.int kk),v2]) ∧ ∃ lr as wa ha st',ReachAt t H' rd am s lr lp lw lh as wa ha st' ∧ Mach t.c_Machine H' am m S ∧ Wm.Inv m.mach kk i st' ∧ st'.ws[kk]? = some x ∧ st'.hs[kk]? = some v ∧ st'.ws.take (kk + 1) = st.ws.take (kk + 1) ∧ Keep4 s lp lw lh H H')
   ⟨⟨none,rfl⟩,lr,as,wa,ha,st,R.same s1,M.same s1,inv,hx,hv,rfl,Keep4.of s1⟩ ?_ ?_
  ·rintro i σ H2 hik ⟨⟨v2,rfl⟩,lr2,as2,wa2,ha2,st2,R2,M2,inv2,hx2,hv2,htk,kp2⟩
   have h0:(0:Int) + (i:Int) = (i:Int):=by omega
   rw [h0]
   obtain ⟨dx2,hi2⟩:=R2.ins
   obtain ⟨dm2,lf2,ll2,lhh2,ps2,MA2,hSe2⟩:=id M2
   obtain ⟨hxl,_⟩:=List.getElem?_eq_some_iff.mp hx2
   obtain ⟨hvl,_⟩:=List.getElem?_eq_some_iff.mp hv2
   obtain ⟨xa,hxa,hxd⟩:=R2.wd.get hx2
   obtain ⟨va,hva,hvd⟩:=R2.hd.get hv2
   have hwn:=Wm.inv_len inv2
   have hwn':st2.ws.length ≤ m.n:=hwn
   have hsh:=inv2.lh
   have hxlen:x.length ≤ 1000:=by have:=Wm.word_short inv2 hx2; omega
   refine ⟨_,rfl,rd,dx2,_,rfl,hi2,rdF_no _ _ _ _ (by decide +kernel) (by decide +kernel) (by decide +kernel) (by decide +kernel),?_⟩
   refine (EvL.eq (evl_catR (ys:=[.int (i:Int)]) (ev_ix (K:=K) (ev_fld (ev_var rfl) hi2 T.cl_Reached T.na_Reached_words (rdF_words ..)) (ev_var rfl) (SqL.of R2.wl) (at_of (j:=kk) rfl (by rw [List.getElem?_map,hxa]; rfl))) (evl_lst (eva_1 (ev_var rfl)) (by show 1 ≤ sizeLine; omega)) hxd (by rw [nums_len]; show x.length + 1 ≤ sizeLine; omega)) (show _ = nums (x ++ [i]) from nums_app x [i])) H2 (Same.refl H2) _ fun H3 p3 s3 hp30 hp3=>?_
   refine (evl_call (xs:=nums (Rc64.step m.mach v i)) (evap_v (v:=.ref am) (ev_fld (ev_var rfl) (s3 _ _ hi2) T.cl_Reached T.na_Reached_machine (rdF_machine ..)) (evap_v (v:=.ref va) (ev_ix (K:=K) (ev_fld (ev_var rfl) (s3 _ _ hi2) T.cl_Reached T.na_Reached_held (rdF_held ..)) (ev_var rfl) (SqL.of (s3 _ _ R2.hl)) (at_of (j:=kk) rfl (by rw [List.getElem?_map,hva]; rfl))) (evap_v (v:=.int (i:Int)) (ev_var rfl) evap_nil))) fun vs H' s' h=>?_) H3 (Same.refl H3) _ fun H4 p4 s4 hp40 hp4=>?_
   ·obtain ⟨us,rfl,us',rfl,us'',rfl,rfl⟩:=h
    exact ⟨am,m,S,va,v,i,rfl,M2.same (s3.trans s'),s' _ _ (s3 _ _ hvd),hold.len,hold.b,hik,hn,rfl⟩
   ·have R4:=R2.same (s3.trans s4)
    have ne3:∀ b xs,H2 b = some (.lst xs) → p3 ≠ b:=fun b xs e z=>by rw [← z,hp30] at e; cases e
    have ne4:∀ b xs,H2 b = some (.lst xs) → p4 ≠ b:=fun b xs e z=>by have:=s3 _ _ e; rw [← z,hp40] at this; cases this
    have hst:=Wm.step_len m.mach v i
    refine ⟨rd,am,s,lr2,lp,lw,lh,as2,wa2,ha2,st2,p3,p4,x ++ [i],Rc64.step m.mach v i,m.n,rfl,R4,s4 _ _ hp3,hp4,⟨ne3 _ _ R2.spc.pivs,ne3 _ _ R2.wl,ne3 _ _ R2.hl⟩,⟨ne4 _ _ R2.spc.pivs,ne4 _ _ R2.wl,ne4 _ _ R2.hl⟩,inv2.re,hst,hn,Wm.step_below m.mach v i,by omega,by omega,fun H5 lr5 as5 wa5 ha5 R5 kp5=>?_⟩
    refine ⟨⟨_,rfl⟩,lr5,as5,wa5,ha5,_,R5,((M2.same (s3.trans s4)).keep4 kp5 hS),Wm.inv_step inv2 hx2 hv2 hik,Wm.look_get hx2,Wm.look_getH hv2,?_,(kp2.trans (Keep4.of (s3.trans s4))).trans kp5⟩
    rw [Wm.look_take (by omega)]; exact htk
  ·rintro σ H2 ⟨⟨v2,rfl⟩,lr2,as2,wa2,ha2,st2,R2,M2,inv2,hx2,hv2,htk,kp2⟩
   exact k H2 lr2 as2 wa2 ha2 st2 R2 M2 (Wm.inv_next inv2 hx2) htk kp2
structure Loop2 (t:Adr) (H H':Hp) (am rd:Addr) (m:Wm.PM) (S:List Addr) (s lr lp lw lh:Addr) (as wa ha:List Addr) (st:Wm.RSt) (kk:Nat):Prop where
 re:ReachAt t H' rd am s lr lp lw lh as wa ha st
 ma:Mach t.c_Machine H' am m S
 inv:Wm.Inv m.mach kk 0 st
 sm:Same H H'
 fr:∀ b,b ∈ [s,lp,lw,lh] → H b = none
theorem Loop2.out {H H':Hp} {am rd:Addr} {m:Wm.PM} {S:List Addr} {s lr lp lw lh:Addr} {as wa ha:List Addr} {st:Wm.RSt} {kk:Nat} (L:Loop2 t H H' am rd m S s lr lp lw lh as wa ha st kk) (M:Mach t.c_Machine H am m S):∀ b,b ∈ S → b ∉ [s,lp,lw,lh]:=fun b hb z=>M.none b hb (L.fr b z)
noncomputable def sp_space_reached (t:Adr):Sp:=fun vs H Q _=>∃ (am:Addr) (m:Wm.PM) (S:List Addr),vs = [.ref am] ∧ Mach t.c_Machine H am m S ∧ m.n ≤ 1000 ∧ m.k ≤ 1000 ∧ ∀ H' s lr lp as l,Same H H' → SpaceAt t H' s lr lp as l → Wm.RE m.n l → Wm.Basis m.mach l → Q (.ref s) H'
theorem ok_space_reached (T:Txt K mg t):FnOk P w K mg base CX0 14 t.f_space_reached t.d_space_reached ["machine"] (sp_space_reached t):=by
 refine T.F_space_reached.ok sc_space_reached (fun vs H Q E h=>?_) (fun cdv A outer s H vs Q E hr h=>?_)
 ·obtain ⟨_,_,_,rfl,_⟩:=h
  rfl
 ·obtain ⟨am,m,S,rfl,M,hn,hk,k⟩:=h
  refine ⟨_,(pss_cons (ps_set (i:=1) sc_space_reached.nd rfl (Or.inl rfl) (pe_make T.mk_Reached (ok_Reached_init T) (hr.mono (by decide)) rfl T.m_Reached (T.F_Reached_init.binds b_Reached_init) .nil pass0 (pa_cons (pv 0) pa_nil)))
   (pss_cons (ps_set (i:=2) sc_space_reached.nd rfl (Or.inl rfl) pe_int)
   (pss_cons (ps_while PassesOwn.never (pt_cmpR op_lt (pv 2) (pe_callB call_len_seq (by rfl) T.b_len PySem.boot_len (pa_cons (pe_fld (pv 1) rfl) pa_nil)) (nomark _)) (pss_cons (ps_expr (pe_meth (pv 1) T.cl_Reached T.me_Reached_go_on_from (ok_Reached_go_on_from T) (hr.mono (by decide)) (T.F_Reached_go_on_from.binds b_Reached_go_on_from) .nil pass0 (pa_cons (pv 2) pa_nil)))
   (pss_one (ps_aug (i:=2) sc_space_reached.nd rfl (Or.inl rfl) pe_int ip_add))))
   (pss_one (ps_ret (pe_fld (pv 1) rfl)))))),?_⟩
  refine ⟨_,rfl,fun rd d hrd hd hne=>?_⟩
  have s0:Same H (upd (upd H d (.own rd)) rd (.ins t.c_Reached d [])):=fun b o e=>by rw [upd_ne (ne_of_none e hrd),upd_ne (ne_of_none e hd)]; exact e
  refine ⟨rd,d,am,m,S,rfl,upd_same,M.same s0,fun z=>M.none rd z hrd,hn,fun H1 s lr lp lw lh as wa ha R1 kx1 fr1=>⟨rfl,?_⟩⟩
  have s1:Same H H1:=fun b o e=>kx1 b o (s0 b o e) (ne_of_none e hrd)
  have fr:∀ b,b ∈ [s,lp,lw,lh] → H b = none:=fun b hb=>s0.free (fr1 b hb)
  have s2:Same H1 H1:=Same.refl H1
  have s12:=s1
  refine ⟨fun μ σ H'=>∃ (kk:Nat) (lr:Addr) (as wa ha:List Addr) (st:Wm.RSt),μ = m.n - kk ∧ σ = [some (.ref am),some (.ref rd),some (.int kk)] ∧ Loop2 t H H' am rd m S s lr lp lw lh as wa ha st kk,
   ⟨_,0,lr,as,wa,ha,Wm.start m.mach,rfl,rfl,⟨R1.same s2,M.same s12,Wm.inv_start M.ok.rt,s12,fr⟩⟩,?_⟩
  rintro μ σ H3 ⟨kk,lr3,as3,wa3,ha3,st,rfl,rfl,L⟩
  obtain ⟨dx3,hi3⟩:=L.re.ins
  have lw3:=L.re.wd.len
  refine (evt_test (ev_op0 (g:=fun i j=>V.bl (decide (i < j))) (i:=(kk:Int)) (j:=(st.ws.length:Int)) (ev_var rfl) (Ev.eq (ev_len (K:=K) (p:=lw) (eva_1 (ev_fld (ev_var rfl) hi3 T.cl_Reached T.na_Reached_words (rdF_words ..))) (SqL.of L.re.wl)) (by rw [List.length_map,lw3])))) H3 (Same.refl H3) _ fun H4 s4=>?_
  have L4:Loop2 t H H4 am rd m S s lr3 lp lw lh as3 wa3 ha3 st kk:=⟨L.re.same s4,L.ma.same s4,L.inv,L.sm.trans s4,L.fr⟩
  by_cases hlt:kk < st.ws.length
  ·refine itY (decide_eq_true (by omega)) ?_
   refine ⟨fun σ' H'=>∃ (lr:Addr) (as wa ha:List Addr) (st:Wm.RSt),σ' = [some (.ref am),some (.ref rd),some (.int ((kk + 1:Nat):Int))] ∧ Loop2 t H H' am rd m S s lr lp lw lh as wa ha st (kk + 1),fun σ' H' ⟨lr,as,wa,ha,st',e,L'⟩=>⟨m.n - (kk + 1),by have:st.ws.length ≤ m.n:=Wm.inv_len L.inv; omega,kk + 1,lr,as,wa,ha,st',rfl,e,L'⟩,?_⟩
   obtain ⟨dx4,hi4⟩:=L4.re.ins
   refine ⟨_,rfl,rd,dx4,_,rfl,hi4,rdF_no _ _ _ _ (by decide +kernel) (by decide +kernel) (by decide +kernel) (by decide +kernel),_,rfl,rd,am,s,lr3,lp,lw,lh,as3,wa3,ha3,st,m,S,kk,rfl,L4.re,L4.ma,L4.out M,hn,hk,L4.inv,hlt,fun H5 lr5 as5 wa5 ha5 st5 R5 M5 inv5 _ kp5=>?_⟩
   refine ⟨_,rfl,_,_,rfl,rfl,lr5,as5,wa5,ha5,st5,?_,⟨R5,M5,inv5,fun b o e=>kp5 b o (L4.sm b o e) fun z=>?_,L4.fr⟩⟩
   ·rfl
   ·have:=L4.fr b z
    rw [e] at this; cases this
  ·refine itN (decide_eq_false (by omega)) ?_
   obtain ⟨dx4,hi4⟩:=L4.re.ins
   exact st_ret (v:=.ref s) (ev_fld (ev_var rfl) hi4 T.cl_Reached T.na_Reached_space (rdF_space ..)) (Same.refl H4) fun H5 s5=>k H5 s lr3 lp as3 st.l (L4.sm.trans s5) (L4.re.spc.same s5) L4.inv.re (Wm.inv_basis L4.inv (by omega))
noncomputable def sp_first_word (t:Adr):Sp:=fun vs H Q _=>∃ (am:Addr) (m:Wm.PM) (S:List Addr),vs = [.ref am] ∧ Mach t.c_Machine H am m S ∧ m.n ≤ 1000 ∧ m.k ≤ 1000 ∧
 (∀ H' kk st,Same H H' → Wm.Inv m.mach kk 0 st → st.ws.length ≤ kk → (∀ x,x ∈ st.ws.take kk → Wm.wt (Wm.toLM m.mach) x = 0) → Q .non H') ∧
 ∀ H' p w kk st,Same H H' → H' p = some (.lst (nums w)) → Wm.Inv m.mach kk 0 st → st.ws[kk]? = some w → (∀ x,x ∈ st.ws.take kk → Wm.wt (Wm.toLM m.mach) x = 0) → Wm.wt (Wm.toLM m.mach) w ≠ 0 → Q (.ref p) H'
theorem ok_first_word_worth_something (T:Txt K mg t):FnOk P w K mg base CX0 14 t.f_first_word_worth_something t.d_first_word_worth_something ["machine"] (sp_first_word t):=by
 refine T.F_first_word_worth_something.ok sc_first_word_worth_something (fun vs H Q E h=>?_) (fun cdv A outer s H vs Q E hr h=>?_)
 ·obtain ⟨_,_,_,rfl,_⟩:=h
  rfl
 ·obtain ⟨am,m,S,rfl,M,hn,hk,k1,k2⟩:=h
  refine ⟨_,(pss_cons (ps_set (i:=1) sc_first_word_worth_something.nd rfl (Or.inl rfl) (pe_make T.mk_Reached (ok_Reached_init T) (hr.mono (by decide)) rfl T.m_Reached (T.F_Reached_init.binds b_Reached_init) .nil pass0 (pa_cons (pv 0) pa_nil)))
   (pss_cons (ps_set (i:=2) sc_first_word_worth_something.nd rfl (Or.inl rfl) pe_int)
   (pss_cons (ps_while PassesOwn.never (pt_cmpR op_lt (pv 2) (pe_callB call_len_seq (by rfl) T.b_len PySem.boot_len (pa_cons (pe_fld (pv 1) rfl) pa_nil)) (nomark _)) (pss_cons (ps_if (pt_cmpR op_ne (pe_call (ok_worth_of_held T) (hr.mono (by decide)) rfl T.m_worth_of_held T.F_worth_of_held.kp (T.F_worth_of_held.binds b_worth_of_held) .nil pass0 (pa_cons (pv 0) (pa_cons (pe_ix ix_list (pe_fld (pv 1) rfl) (pv 2) (fun _ _=>rfl)) pa_nil))) pe_int (nomark _)) (pss_one (ps_ret (pe_ix ix_list (pe_fld (pv 1) rfl) (pv 2) (fun _ _=>rfl)))) pss_nil)
   (pss_cons (ps_expr (pe_meth (pv 1) T.cl_Reached T.me_Reached_go_on_from (ok_Reached_go_on_from T) (hr.mono (by decide)) (T.F_Reached_go_on_from.binds b_Reached_go_on_from) .nil pass0 (pa_cons (pv 2) pa_nil)))
   (pss_one (ps_aug (i:=2) sc_first_word_worth_something.nd rfl (Or.inl rfl) pe_int ip_add)))))
   (pss_one (ps_ret pe_non))))),?_⟩
  refine ⟨_,rfl,fun rd d hrd hd hne=>?_⟩
  have s0:Same H (upd (upd H d (.own rd)) rd (.ins t.c_Reached d [])):=fun b o e=>by rw [upd_ne (ne_of_none e hrd),upd_ne (ne_of_none e hd)]; exact e
  refine ⟨rd,d,am,m,S,rfl,upd_same,M.same s0,fun z=>M.none rd z hrd,hn,fun H1 s lr lp lw lh as wa ha R1 kx1 fr1=>⟨rfl,?_⟩⟩
  have s1:Same H H1:=fun b o e=>kx1 b o (s0 b o e) (ne_of_none e hrd)
  have fr:∀ b,b ∈ [s,lp,lw,lh] → H b = none:=fun b hb=>s0.free (fr1 b hb)
  have s2:Same H1 H1:=Same.refl H1
  have s12:=s1
  refine ⟨fun μ σ H'=>∃ (kk:Nat) (lr:Addr) (as wa ha:List Addr) (st:Wm.RSt),μ = m.n - kk ∧ σ = [some (.ref am),some (.ref rd),some (.int kk)] ∧ Loop2 t H H' am rd m S s lr lp lw lh as wa ha st kk ∧ ∀ x,x ∈ st.ws.take kk → Wm.wt (Wm.toLM m.mach) x = 0,
   ⟨_,0,lr,as,wa,ha,Wm.start m.mach,rfl,rfl,⟨R1.same s2,M.same s12,Wm.inv_start M.ok.rt,s12,fr⟩,fun x hx=>by simp at hx⟩,?_⟩
  rintro μ σ H3 ⟨kk,lr3,as3,wa3,ha3,st,rfl,rfl,L,hzero⟩
  obtain ⟨dx3,hi3⟩:=L.re.ins
  have lw3:=L.re.wd.len
  refine (evt_test (ev_op0 (g:=fun i j=>V.bl (decide (i < j))) (i:=(kk:Int)) (j:=(st.ws.length:Int)) (ev_var rfl) (Ev.eq (ev_len (K:=K) (p:=lw) (eva_1 (ev_fld (ev_var rfl) hi3 T.cl_Reached T.na_Reached_words (rdF_words ..))) (SqL.of L.re.wl)) (by rw [List.length_map,lw3])))) H3 (Same.refl H3) _ fun H4 s4=>?_
  have L4:Loop2 t H H4 am rd m S s lr3 lp lw lh as3 wa3 ha3 st kk:=⟨L.re.same s4,L.ma.same s4,L.inv,L.sm.trans s4,L.fr⟩
  by_cases hlt:kk < st.ws.length
  ·refine itY (decide_eq_true (by omega)) ?_
   refine ⟨fun σ' H'=>∃ (lr:Addr) (as wa ha:List Addr) (st:Wm.RSt),σ' = [some (.ref am),some (.ref rd),some (.int ((kk + 1:Nat):Int))] ∧ Loop2 t H H' am rd m S s lr lp lw lh as wa ha st (kk + 1) ∧ ∀ x,x ∈ st.ws.take (kk + 1) → Wm.wt (Wm.toLM m.mach) x = 0,fun σ' H' ⟨lr,as,wa,ha,st',e,L',z'⟩=>⟨m.n - (kk + 1),by have:st.ws.length ≤ m.n:=Wm.inv_len L.inv; omega,kk + 1,lr,as,wa,ha,st',rfl,e,L',z'⟩,?_⟩
   obtain ⟨dx4,hi4⟩:=L4.re.ins
   obtain ⟨x,hx⟩:∃ x,st.ws[kk]? = some x:=⟨_,List.getElem?_eq_getElem hlt⟩
   obtain ⟨v,hv⟩:∃ v,st.hs[kk]? = some v:=⟨_,List.getElem?_eq_getElem (by rw [L4.inv.lh]; exact hlt)⟩
   have hold:=L4.inv.hold kk x v hx hv
   obtain ⟨xa,hxa,hxd⟩:=L4.re.wd.get hx
   obtain ⟨va,hva,hvd⟩:=L4.re.hd.get hv
   refine (evt_test (ev_neI (i:=((Wm.dotR v m.l:Nat):Int)) (j:=0) (ev_call (evap_v (v:=.ref am) (ev_var rfl) (evap_v (v:=.ref va) (ev_ix (K:=K) (ev_fld (ev_var rfl) hi4 T.cl_Reached T.na_Reached_held (rdF_held ..)) (ev_var rfl) (SqL.of L4.re.hl) (at_of (j:=kk) rfl (by rw [List.getElem?_map,hva]; rfl))) evap_nil)) fun vs H' s' h=>?_) ev_c)) H4 (Same.refl H4) _ fun H5 s5=>?_
   ·obtain ⟨us,rfl,us',rfl,rfl⟩:=h
    exact ⟨am,m,S,va,v,rfl,L4.ma.same s',s' _ _ hvd,hold.len,hold.b,hn,rfl⟩
   have hiff:=Wm.dotR_zero (m:=m) M.ok hold
   have L5:Loop2 t H H5 am rd m S s lr3 lp lw lh as3 wa3 ha3 st kk:=⟨L4.re.same s5,L4.ma.same s5,L4.inv,L4.sm.trans s5,L4.fr⟩
   by_cases hz:Wm.dotR v m.l = 0
   ·refine itN (ne_no hz) ?_
    refine ⟨_,rfl,rd,dx4,_,rfl,s5 _ _ hi4,rdF_no _ _ _ _ (by decide +kernel) (by decide +kernel) (by decide +kernel) (by decide +kernel),_,rfl,rd,am,s,lr3,lp,lw,lh,as3,wa3,ha3,st,m,S,kk,rfl,L5.re,L5.ma,L5.out M,hn,hk,L5.inv,hlt,fun H6 lr6 as6 wa6 ha6 st6 R6 M6 inv6 htk kp6=>?_⟩
    refine ⟨_,rfl,_,_,rfl,rfl,lr6,as6,wa6,ha6,st6,?_,⟨R6,M6,inv6,fun b o e=>kp6 b o (L5.sm b o e) fun z=>?_,L5.fr⟩,fun y hy=>?_⟩
    ·rfl
    ·have:=L5.fr b z
     rw [e] at this; cases this
    ·rw [htk] at hy
     obtain ⟨i,hi,ei⟩:=Wm.mem_take hy
     by_cases e:i = kk
     ·subst e
      rw [hx] at ei
      obtain rfl:=Option.some.inj ei
      exact hiff.1 hz
     ·exact hzero y (Wm.take_mem (by omega) ei)
   ·refine itY (ne_yes hz) ?_
    refine st_ret (v:=.ref xa) (ev_ix (K:=K) (ev_fld (ev_var rfl) (s5 _ _ hi4) T.cl_Reached T.na_Reached_words (rdF_words ..)) (ev_var rfl) (SqL.of L5.re.wl) (at_of (j:=kk) rfl (by rw [List.getElem?_map,hxa]; rfl))) (Same.refl H5) fun H6 s6=>?_
    exact k2 H6 xa x kk st (L5.sm.trans s6) (s6 _ _ (s5 _ _ hxd)) L5.inv hx hzero fun e=>hz (hiff.2 e)
  ·refine itN (decide_eq_false (by omega)) ?_
   dsimp only
   exact st_ret (v:=.non) ev_c (Same.refl H4) fun H5 s5=>k1 H5 kk st (L4.sm.trans s5) L4.inv (by omega) hzero
noncomputable def sp_first_word_apart (t:Adr):Sp:=fun vs H Q _=>∃ (a b:Addr) (m o:Wm.PM) (S S':List Addr),vs = [.ref a,.ref b] ∧ Mach t.c_Machine H a m S ∧ Mach t.c_Machine H b o S' ∧ m.k = o.k ∧ m.n ≤ 100 ∧ o.n ≤ 100 ∧ m.k ≤ 100 ∧
 (∀ H',Same H H' → Wm.IsApart m.k (Wm.toLM m.mach) (Wm.toLM o.mach) none → Q .non H') ∧ ∀ H' p w,Same H H' → H' p = some (.lst (nums w)) → Wm.IsApart m.k (Wm.toLM m.mach) (Wm.toLM o.mach) (some w) → Q (.ref p) H'
theorem ok_first_word_apart (T:Txt K mg t):FnOk P w K mg base CX0 17 t.f_first_word_apart t.d_first_word_apart ["one","other"] (sp_first_word_apart t):=by
 refine T.F_first_word_apart.ok sc_first_word_apart (fun vs H Q E h=>?_) (fun cdv A outer s H vs Q E hr h=>?_)
 ·obtain ⟨_,_,_,_,_,_,rfl,_⟩:=h
  rfl
 ·obtain ⟨a,b,m,o,S,S',rfl,M1,M2,hk,hm,ho,hkk,k1,k2⟩:=h
  refine ⟨_,(pss_one (ps_ret (pe_call (ok_first_word_worth_something T) (hr.mono (by decide)) rfl T.m_first_word_worth_something T.F_first_word_worth_something.kp (T.F_first_word_worth_something.binds b_first_word_worth_something) .nil pass0 (pa_cons (pe_call (ok_added T) (hr.mono (by decide)) rfl T.m_added T.F_added.kp (T.F_added.binds b_added) .nil pass0 (pa_cons (pv 0) (pa_cons (pe_call (ok_negative T) (hr.mono (by decide)) rfl T.m_negative T.F_negative.kp (T.F_negative.binds b_negative) .nil pass0 (pa_cons (pv 1) pa_nil)) pa_nil))) pa_nil)))),?_⟩
  refine ⟨_,rfl,_,rfl,b,o,S',rfl,M2,by omega,fun H1 c Sc s1 Mc=>?_⟩
  refine ⟨Wm.difP m o,⟨a,c,m,Wm.negP o,S,Sc,rfl,M1.same s1,Mc,hk,hm,ho,hkk,rfl⟩,fun H2 e Se s2 Me fre=>?_⟩
  have s12:=s1.trans s2
  refine ⟨e,Wm.difP m o,Se,rfl,Me,by show m.n + o.n ≤ 1000; omega,by show m.k ≤ 1000; omega,fun H3 kk st s3 inv hl hz=>?_,fun H3 p w kk st s3 hp inv hw hz hne=>?_⟩
  ·exact k1 H3 (s12.trans s3) (Wm.apart_none M1.ok M2.ok hk inv hl hz)
  ·exact k2 H3 p w (s12.trans s3) hp (Wm.apart_some M1.ok M2.ok hk inv hw hz hne)
noncomputable def sp_handed_within (t:Adr):Sp:=SpM fun vs H rows=>∃ (am:Addr) (m:Wm.PM) (S:List Addr) (s lr lp:Addr) (as:List Addr) (l:List Rc64.Row) (a:Nat),vs = [.ref am,.ref s,.int a] ∧ Mach t.c_Machine H am m S ∧ SpaceAt t H s lr lp as l ∧ Wm.RE m.n l ∧ a < m.k ∧ m.n ≤ 1000 ∧ rows = (List.range l.length).map fun i=>Wm.facR l (Rc64.step m.mach (Wm.rw' l i) a)
theorem ok_handed_within (T:Txt K mg t):FnOk P w K mg base CX0 6 t.f_handed_within t.d_handed_within ["machine","space","a"] (sp_handed_within t):=by
 refine T.F_handed_within.ok sc_handed_within (fun vs H Q E h=>?_) (fun cdv A outer s H vs Q E hr h=>?_)
 ·obtain ⟨_,⟨_,_,_,_,_,_,_,_,_,rfl,_⟩,_⟩:=h
  rfl
 ·obtain ⟨_,⟨am,m,S,s,lr,lp,as,l,a,rfl,M,A,re,ha,hn,rfl⟩,k⟩:=h
  obtain ⟨dx,hi⟩:=A.ins
  have hll:=re.ech.len
  have hal:=A.dat.len
  rw [List.length_map] at hal
  refine ⟨_,(pss_one (ps_ret (pe_lc (own:=[("row",3)]) rfl sc_handed_within.nd (pi_list (pe_fld (pv 1) rfl)) (show BlkOk ["machine","space","a","row"] (defScope st_handed_within) _ [("row",3)] from ⟨rfl,by decide +kernel,by decide +kernel,by decide +kernel,by decide +kernel⟩) (fun _ _ _ _ _=>(pg_name (i:=3) sc_handed_within.nd rfl (Or.inl rfl))) (fun _ _ _ _ _=>pts_nil) (fun _ _ _ _ _=>(pe_meth (pv 1) T.cl_Space T.me_Space_factors (ok_Space_factors T) (hr.mono (by decide)) (T.F_Space_factors.binds b_Space_factors) .nil pass0 (pa_cons (pe_call (ok_handed_on T) (hr.mono (by decide)) rfl T.m_handed_on T.F_handed_on.kp (T.F_handed_on.binds b_handed_on) .nil pass0 (pa_cons (pv 0) (pa_cons (pv 3) (pa_cons (pv 2) pa_nil)))) pa_nil)))))),?_⟩
  refine st_retM (EvM.eq (evm_in (K:=K) (p:=lr) (xs:=as.map V.ref) (g:=fun i=>Wm.facR l (Rc64.step m.mach (Wm.rw' l i) a)) (ev_fld (ev_var rfl) hi T.cl_Space T.na_Space_rows (spF_rows ..)) (SqL.of A.rows) (by rw [List.length_map]; omega) (fun _=>rfl) fun i x hx=>?_) (by rw [List.length_map,hal])) (Same.refl H) k
  obtain ⟨c,rfl,hil,_,hc⟩:=A.dat.at hx
  rw [List.length_map] at hil
  rw [Wm.rw_map hil] at hc
  refine evl_meth (ev_var rfl) hi (spF_no _ _ (by decide +kernel) (by decide +kernel)) (evap_l (xs:=nums (Rc64.step m.mach (Wm.rw' l i) a)) (evl_call (evap_v (v:=.ref am) (ev_var rfl) (evap_v (v:=.ref c) (ev_var rfl) (evap_v (v:=.int (a:Int)) (ev_var rfl) evap_nil))) fun vs H' s' h=>?_) evap_nil) fun vs H' s' h=>?_
  ·obtain ⟨us,rfl,us',rfl,us'',rfl,rfl⟩:=h
   exact ⟨am,m,S,c,_,a,rfl,M.same s',s' _ _ hc,(re.mem i hil).1,(re.mem i hil).2.1,ha,hn,rfl⟩
  ·obtain ⟨q,us,rfl,hq,rfl⟩:=h
   refine ⟨s,lr,lp,as,l,q,_,rfl,A.same s',hq,fun j hj=>?_,by omega,rfl⟩
   rw [Wm.step_len]
   exact (re.mem j hj).2.2
noncomputable def sp_only (t:Adr):Sp:=fun vs H Q _=>∃ (am:Addr) (m:Wm.PM) (S:List Addr),vs = [.ref am] ∧ Mach t.c_Machine H am m S ∧ m.n ≤ 1000 ∧ m.k ≤ 1000 ∧ ∀ l,Wm.RE m.n l → Wm.Basis m.mach l → ∀ H' a S',Same H H' → Mach t.c_Machine H' a (Wm.onlyP m l) S' → (∀ b,b ∈ S' → H b = none) → Q (.ref a) H'
theorem ok_only_reached (T:Txt K mg t):FnOk P w K mg base CX0 17 t.f_only_reached t.d_only_reached ["machine"] (sp_only t):=by
 refine T.F_only_reached.ok sc_only_reached (fun vs H Q E h=>?_) (fun cdv A outer s H vs Q E hr h=>?_)
 ·obtain ⟨_,_,_,rfl,_⟩:=h
  rfl
 ·obtain ⟨am,m,S,rfl,M,hn,hk,k⟩:=h
  refine ⟨_,(pss_cons (ps_set (i:=1) sc_only_reached.nd rfl (Or.inr rfl) (pe_call (ok_space_reached T) (hr.mono (by decide)) rfl T.m_space_reached T.F_space_reached.kp (T.F_space_reached.binds b_space_reached) .nil pass0 (pa_cons (pv 0) pa_nil)))
   (pss_cons (ps_setLc (i:=2) (own:=[("row",4)]) rfl sc_only_reached.nd rfl rfl (sw_true rfl rfl rfl rfl) (pi_list (pe_fld (pv 1) rfl)) (show BlkOk ["machine","space","lasts","hands","row","a"] (defScope st_only_reached) _ [("row",4)] from ⟨rfl,by decide +kernel,by decide +kernel,by decide +kernel,by decide +kernel⟩) (fun _ _ _ _ _=>(pg_name (i:=4) sc_only_reached.nd rfl (Or.inl rfl))) (fun _ _ _ _ _=>pts_nil) (fun _ _ _ _ _=>(pe_call (ok_worth_of_held T) (hr.mono (by decide)) rfl T.m_worth_of_held T.F_worth_of_held.kp (T.F_worth_of_held.binds b_worth_of_held) .nil pass0 (pa_cons (pv 0) (pa_cons (pv 4) pa_nil)))))
   (pss_cons (ps_setLc (i:=3) (own:=[("a",5)]) rfl sc_only_reached.nd rfl rfl (sw_true rfl rfl rfl rfl) (pi_range1 rfl T.b_range (pa_cons (pe_fld (pv 0) rfl) pa_nil)) (show BlkOk ["machine","space","lasts","hands","row","a"] (defScope st_only_reached) _ [("a",5)] from ⟨rfl,by decide +kernel,by decide +kernel,by decide +kernel,by decide +kernel⟩) (fun _ _ _ _ _=>(pg_name (i:=5) sc_only_reached.nd rfl (Or.inl rfl))) (fun _ _ _ _ _=>pts_nil) (fun _ _ _ _ _=>(pe_call (ok_handed_within T) (hr.mono (by decide)) rfl T.m_handed_within T.F_handed_within.kp (T.F_handed_within.binds b_handed_within) .nil pass0 (pa_cons (pv 0) (pa_cons (pv 1) (pa_cons (pv 5) pa_nil))))))
   (pss_one (ps_ret (pe_make T.mk_Machine (ok_Machine_init T) (hr.mono (by decide)) rfl T.m_Machine (T.F_Machine_init.binds b_Machine_init) .nil pass0 (pa_cons (pe_meth (pv 1) T.cl_Space T.me_Space_factors (ok_Space_factors T) (hr.mono (by decide)) (T.F_Space_factors.binds b_Space_factors) .nil pass0 (pa_cons (pe_fld (pv 0) rfl) pa_nil)) (pa_cons (pv 2) (pa_cons (pv 3) pa_nil))))))))),?_⟩
  refine ⟨_,rfl,am,m,S,rfl,M,hn,hk,fun H1 s lr lp as l s1 A re bas=>?_⟩
  have k:=k l re bas
  obtain ⟨dx,hi⟩:=A.ins
  have hll:=re.ech.len
  have hal:=A.dat.len
  rw [List.length_map] at hal
  have M1:=M.same s1
  refine st_setL (xs:=nums (Wm.onlyP m l).l) (EvL.eq (evl_in (K:=K) (p:=lr) (xs:=as.map V.ref) (g:=fun i=>.int ((Wm.dotR (Wm.rw' l i) m.l:Nat):Int)) (ev_fld (ev_var rfl) hi T.cl_Space T.na_Space_rows (spF_rows ..)) (SqL.of A.rows) (by rw [List.length_map]; omega) (fun _=>rfl) fun i x hx=>?_) (by rw [List.length_map,hal,nums_range]; rfl)) (Same.refl H1) fun H2 l2 s2 hl20 hl2=>?_
  ·obtain ⟨c,rfl,hil,_,hc⟩:=A.dat.at hx
   rw [List.length_map] at hil
   rw [Wm.rw_map hil] at hc
   refine ev_call (evap_v (v:=.ref am) (ev_var rfl) (evap_v (v:=.ref c) (ev_var rfl) evap_nil)) fun vs H' s' h=>?_
   obtain ⟨us,rfl,us',rfl,rfl⟩:=h
   exact ⟨am,m,S,c,_,rfl,M1.same s',s' _ _ hc,(re.mem i hil).1,(re.mem i hil).2.1,hn,rfl⟩
  have s12:=s1.trans s2
  have A2:=A.same s2
  obtain ⟨dm,lf,ll,lhh,ps,MA2,_⟩:=M.same s12
  refine st_setS (evs_range (n:=m.k) (g:=fun a=>(List.range l.length).map fun i=>Wm.facR l (Rc64.step m.mach (Wm.rw' l i) a)) (eva_1 (ev_letters T (ev_var rfl) MA2)) (by omega) (fun _=>rfl) fun a ha=>?_) (Same.refl H2) fun H3 h3 ps3 s3 hl3 hq3 nd3 fr3=>?_
  ·refine evm_call (evap_v (v:=.ref am) (ev_var rfl) (evap_v (v:=.ref s) (ev_var rfl) (evap_v (v:=.int (a:Int)) (ev_var rfl) evap_nil))) fun vs H' s' h=>?_
   obtain ⟨us,rfl,us',rfl,us'',rfl,rfl⟩:=h
   exact ⟨am,m,S,s,lr,lp,as,l,a,rfl,M.same (s12.trans s'),A2.same s',re,ha,hn,rfl⟩
  have s13:=s12.trans s3
  have A3:=A2.same s3
  obtain ⟨dx3,hi3⟩:=A3.ins
  have MA3:=MA2.same s3
  refine mk_machine (m:=Wm.onlyP m l) s13 (Wm.only_ok M.ok l) hl3 hq3 (args_LVV (evl_meth (xs:=nums (Wm.facR l m.f)) (ev_var rfl) hi3 (spF_no _ _ (by decide +kernel) (by decide +kernel)) (evap_v (ev_firsts T (ev_var rfl) MA3) evap_nil) fun vs H' s' h=>?_) (ev_var rfl) (ev_var rfl) (s3 _ _ hl2) s13 (List.nodup_cons.2 ⟨fun z=>?_,nd3⟩) (fun c hc=>?_) fun c hc=>?_) k
  ·obtain ⟨us,rfl,rfl⟩:=h
   exact ⟨s,lr,lp,as,l,lf,m.f,rfl,A3.same s',s' _ _ MA3.fst,fun i hi=>by rw [M.ok.fl]; exact (re.mem i hi).2.2,by omega,rfl⟩
  ·have:=fr3 l2 z
   rw [hl2] at this; cases this
  ·rcases List.mem_cons.1 hc with e | hc
   ·rw [e]; exact s1.free hl20
   ·exact s12.free (fr3 c hc)
  ·rcases List.mem_cons.1 hc with e | hc
   ·rw [e,s3 _ _ hl2]; intro z; cases z
   ·exact sq_some hl3 hq3 c hc
noncomputable def sp_fewest (t:Adr):Sp:=fun vs H Q _=>∃ (am:Addr) (m:Wm.PM) (S:List Addr),vs = [.ref am] ∧ Mach t.c_Machine H am m S ∧ m.n ≤ 1000 ∧ m.k ≤ 1000 ∧ ∀ q,Wm.LeastOk m.mach q.mach → q.n ≤ m.n → q.k = m.k → ∀ H' a S',Same H H' → Mach t.c_Machine H' a q S' → (∀ b,b ∈ S' → H b = none) → Q (.ref a) H'
theorem ok_fewest (T:Txt K mg t):FnOk P w K mg base CX0 20 t.f_fewest t.d_fewest ["machine"] (sp_fewest t):=by
 refine T.F_fewest.ok sc_fewest (fun vs H Q E h=>?_) (fun cdv A outer s H vs Q E hr h=>?_)
 ·obtain ⟨_,_,_,rfl,_⟩:=h
  rfl
 ·obtain ⟨am,m,S,rfl,M,hn,hk,k⟩:=h
  refine ⟨_,(pss_one (ps_ret (pe_call (ok_turned T) (hr.mono (by decide)) rfl T.m_turned T.F_turned.kp (T.F_turned.binds b_turned) .nil pass0 (pa_cons (pe_call (ok_only_reached T) (hr.mono (by decide)) rfl T.m_only_reached T.F_only_reached.kp (T.F_only_reached.binds b_only_reached) .nil pass0 (pa_cons (pe_call (ok_turned T) (hr.mono (by decide)) rfl T.m_turned T.F_turned.kp (T.F_turned.binds b_turned) .nil pass0 (pa_cons (pe_call (ok_only_reached T) (hr.mono (by decide)) rfl T.m_only_reached T.F_only_reached.kp (T.F_only_reached.binds b_only_reached) .nil pass0 (pa_cons (pv 0) pa_nil)) pa_nil)) pa_nil)) pa_nil)))),?_⟩
  refine ⟨_,rfl,am,m,S,rfl,M,hn,hk,fun l re bas H1 a1 S1 s1 M1 fr1=>?_⟩
  have hl1:l.length ≤ m.n:=re.ech.len
  refine ⟨_,⟨a1,_,S1,rfl,M1,by show l.length ≤ 1000; omega,hk,rfl⟩,fun H2 a2 S2 s2 M2 fr2=>?_⟩
  refine ⟨a2,_,S2,rfl,M2,by show l.length ≤ 1000; omega,hk,fun l2 re2 bas2 H3 a3 S3 s3 M3 fr3=>?_⟩
  have hl2:l2.length ≤ l.length:=re2.ech.len
  refine ⟨_,⟨a3,_,S3,rfl,M3,by show l2.length ≤ 1000; omega,hk,rfl⟩,fun H4 a4 S4 s4 M4 fr4=>?_⟩
  exact k _ (Wm.fewest_ok M.ok re bas re2 bas2) (by show l2.length ≤ m.n; omega) rfl H4 a4 S4 (((s1.trans s2).trans s3).trans s4) M4 fun b hb=>((s1.trans s2).trans s3).free (fr4 b hb)
end
end Wp
namespace Wp
open PySem PySem.Spec PyProof.Rows L2
open PySem.W (Codec)
noncomputable def SlotAt (C:Addr) (H:Hp):V → Option Wm.PM → List Addr → Prop
 | .non,none,f=>f = []
 | .ref a,some m,f=>Mach C H a m f ∧ m.n ≤ 32 ∧ m.k ≤ 4
 | _,_,_=>False
noncomputable def Slots (C:Addr) (H:Hp):List V → List (Option Wm.PM) → List (List Addr) → Prop
 | [],[],[]=>True
 | v :: vs,o :: os,f :: fs=>SlotAt C H v o f ∧ Slots C H vs os fs
 | _,_,_=>False
theorem SlotAt.frame {C:Addr} {H H':Hp}:∀ {v:V} {o:Option Wm.PM} {f:List Addr},SlotAt C H v o f → (∀ b,b ∈ f → H' b = H b) → SlotAt C H' v o f
 | .non,none,f,h,_=>h
 | .ref a,some m,f,h,k=>⟨h.1.frame k,h.2⟩
 | .non,some _,_,h,_=>h.elim
 | .ref _,none,_,h,_=>h.elim
 | .bl _,_,_,h,_=>by cases h
 | .int _,_,_,h,_=>by cases h
 | .str _,_,_,h,_=>by cases h
 | .byt _,_,_,h,_=>by cases h
 | .flt _,_,_,h,_=>by cases h
 | .ty _,_,_,h,_=>by cases h
theorem SlotAt.cases {C:Addr} {H:Hp}:∀ {v:V} {o:Option Wm.PM} {f:List Addr},SlotAt C H v o f → (v = .non ∧ o = none ∧ f = []) ∨ ∃ a m,v = .ref a ∧ o = some m ∧ Mach C H a m f ∧ m.n ≤ 32 ∧ m.k ≤ 4
 | .non,none,f,h=>.inl ⟨rfl,rfl,h⟩
 | .ref a,some m,f,h=>.inr ⟨a,m,rfl,rfl,h⟩
 | .non,some _,_,h=>h.elim
 | .ref _,none,_,h=>h.elim
 | .bl _,_,_,h=>by cases h
 | .int _,_,_,h=>by cases h
 | .str _,_,_,h=>by cases h
 | .byt _,_,_,h=>by cases h
 | .flt _,_,_,h=>by cases h
 | .ty _,_,_,h=>by cases h
theorem SlotAt.none {C:Addr} {H:Hp} {v:V} {o:Option Wm.PM} {f:List Addr} (h:SlotAt C H v o f):∀ b,b ∈ f → H b ≠ none:=by
 rcases h.cases with ⟨_,_,rfl⟩ | ⟨a,m,_,_,M,_⟩
 ·intro b hb; cases hb
 ·exact M.none
theorem Slots.len {C:Addr} {H:Hp}:∀ {vs:List V} {os:List (Option Wm.PM)} {fs:List (List Addr)},Slots C H vs os fs → vs.length = os.length ∧ fs.length = os.length
 | [],[],[],_=>⟨rfl,rfl⟩
 | _ :: _,_ :: _,_ :: _,h=>⟨congrArg (· + 1) (Slots.len h.2).1,congrArg (· + 1) (Slots.len h.2).2⟩
 | [],[],_ :: _,h=>h.elim
 | [],_ :: _,_,h=>h.elim
 | _ :: _,[],_,h=>h.elim
 | _ :: _,_ :: _,[],h=>h.elim
theorem Slots.frame {C:Addr} {H H':Hp}:∀ {vs:List V} {os:List (Option Wm.PM)} {fs:List (List Addr)},Slots C H vs os fs → (∀ b,b ∈ fs.flatten → H' b = H b) → Slots C H' vs os fs
 | [],[],[],_,_=>trivial
 | _ :: _,_ :: _,f :: fs,h,k=>⟨h.1.frame fun b hb=>k b (List.mem_append_left _ hb),Slots.frame h.2 fun b hb=>k b (List.mem_append_right _ hb)⟩
 | [],[],_ :: _,h,_=>h.elim
 | [],_ :: _,_,h,_=>h.elim
 | _ :: _,[],_,h,_=>h.elim
 | _ :: _,_ :: _,[],h,_=>h.elim
theorem Slots.full {C:Addr} {H:Hp}:∀ {vs:List V} {os:List (Option Wm.PM)} {fs:List (List Addr)},Slots C H vs os fs → ∀ b,b ∈ fs.flatten → H b ≠ none
 | [],[],[],_,_,h=>by cases h
 | _ :: _,_ :: _,f :: fs,h,b,hb=>by
  rw [List.flatten_cons] at hb
  rcases List.mem_append.1 hb with hb | hb
  ·exact h.1.none b hb
  ·exact Slots.full h.2 b hb
 | [],[],_ :: _,h,_,_=>h.elim
 | [],_ :: _,_,h,_,_=>h.elim
 | _ :: _,[],_,h,_,_=>h.elim
 | _ :: _,_ :: _,[],h,_,_=>h.elim
theorem Slots.get {C:Addr} {H:Hp}:∀ {vs:List V} {os:List (Option Wm.PM)} {fs:List (List Addr)},Slots C H vs os fs → ∀ {i:Nat} {o:Option Wm.PM},os[i]? = some o → ∃ v f,vs[i]? = some v ∧ fs[i]? = some f ∧ SlotAt C H v o f
 | [],[],[],_,_,_,e=>by simp at e
 | v :: _,o :: _,f :: fs,h,0,o',e=>by
  have:o = o':=Option.some.inj e
  subst this
  exact ⟨v,f,rfl,rfl,h.1⟩
 | _ :: _,_ :: _,f :: fs,h,i + 1,o',e=>Slots.get h.2 (i:=i) (o:=o') e
 | [],[],_ :: _,h,_,_,_=>h.elim
 | [],_ :: _,_,h,_,_,_=>h.elim
 | _ :: _,[],_,h,_,_,_=>h.elim
 | _ :: _,_ :: _,[],h,_,_,_=>h.elim
theorem Slots.set {C:Addr} {H H':Hp}:∀ {vs:List V} {os:List (Option Wm.PM)} {fs:List (List Addr)},Slots C H vs os fs → fs.flatten.Nodup → ∀ {i:Nat} {f f':List Addr} {v:V} {o:Option Wm.PM},fs[i]? = some f →
  (∀ b,H b ≠ none → b ∉ f → H' b = H b) → SlotAt C H' v o f' → (∀ b,b ∈ f' → b ∈ f ∨ H b = none) → f'.Nodup →
  Slots C H' (vs.set i v) (os.set i o) (fs.set i f') ∧ (fs.set i f').flatten.Nodup ∧ ∀ b,b ∈ (fs.set i f').flatten → b ∈ fs.flatten ∨ H b = none
 | [],[],[],_,_,_,_,_,_,_,e,_,_,_,_=>by simp at e
 | u :: vs,p :: os,g :: fs,h,nd,0,f,f',v,o,e,k,hs,hf,nd'=>by
  have:g = f:=Option.some.inj e
  subst this
  rw [List.flatten_cons] at nd
  obtain ⟨n1,n2,n3⟩:=List.nodup_append.1 nd
  refine ⟨⟨hs,h.2.frame fun b hb=>k b (h.2.full b hb) fun z=>n3 b z b hb rfl⟩,?_,fun b hb=>?_⟩
  ·show (f' ++ fs.flatten).Nodup
   refine List.nodup_append.2 ⟨nd',n2,fun x hx y hy z=>?_⟩
   subst z
   rcases hf x hx with q | q
   ·exact n3 x q x hy rfl
   ·exact h.2.full x hy q
  ·have hb:b ∈ f' ++ fs.flatten:=hb
   rw [List.flatten_cons]
   rcases List.mem_append.1 hb with q | q
   ·rcases hf b q with q | q
    ·exact .inl (List.mem_append_left _ q)
    ·exact .inr q
   ·exact .inl (List.mem_append_right _ q)
 | u :: vs,p :: os,g :: fs,h,nd,i + 1,f,f',v,o,e,k,hs,hf,nd'=>by
  rw [List.flatten_cons] at nd
  obtain ⟨n1,n2,n3⟩:=List.nodup_append.1 nd
  have hfm:∀ b,b ∈ f → b ∈ fs.flatten:=fun b hb=>List.mem_flatten.2 ⟨f,List.mem_of_getElem? (show fs[i]? = some f from e),hb⟩
  obtain ⟨q1,q2,q3⟩:=Slots.set (H':=H') h.2 n2 (i:=i) (f:=f) (f':=f') (v:=v) (o:=o) e k hs hf nd'
  refine ⟨⟨h.1.frame fun b hb=>k b (h.1.none b hb) fun z=>n3 b hb b (hfm b z) rfl,q1⟩,?_,fun b hb=>?_⟩
  ·show (g ++ (fs.set i f').flatten).Nodup
   refine List.nodup_append.2 ⟨n1,q2,fun x hx y hy z=>?_⟩
   subst z
   rcases q3 x hy with q | q
   ·exact n3 x hx x q rfl
   ·exact h.1.none x hx q
  ·have hb:b ∈ g ++ (fs.set i f').flatten:=hb
   rw [List.flatten_cons]
   rcases List.mem_append.1 hb with q | q
   ·exact .inl (List.mem_append_left _ q)
   ·rcases q3 b q with q | q
    ·exact .inl (List.mem_append_right _ q)
    ·exact .inr q
 | [],[],_ :: _,h,_,_,_,_,_,_,_,_,_,_,_=>h.elim
 | [],_ :: _,_,h,_,_,_,_,_,_,_,_,_,_,_=>h.elim
 | _ :: _,[],_,h,_,_,_,_,_,_,_,_,_,_,_=>h.elim
 | _ :: _,_ :: _,[],h,_,_,_,_,_,_,_,_,_,_,_=>h.elim
structure PlacesAt (t:Adr) (H:Hp) (pl lm:Addr) (vs:List V) (os:List (Option Wm.PM)) (fs:List (List Addr)):Prop where
 ins:∃ dx,H pl = some (.ins t.c_Places dx (putF "machines" (.ref lm) []))
 lst:H lm = some (.lst vs)
 len:os.length = 8
 slots:Slots t.c_Machine H vs os fs
 nd:(pl :: lm :: fs.flatten).Nodup
noncomputable def Places (t:Adr) (H:Hp) (pl:Addr) (os:List (Option Wm.PM)) (S:List Addr):Prop:=∃ lm vs fs,PlacesAt t H pl lm vs os fs ∧ S = pl :: lm :: fs.flatten
theorem Places.frame {t:Adr} {H H':Hp} {pl:Addr} {os:List (Option Wm.PM)} {S:List Addr} (h:Places t H pl os S) (k:∀ b,b ∈ S → H' b = H b):Places t H' pl os S:=by
 obtain ⟨lm,vs,fs,Q,rfl⟩:=h
 obtain ⟨dx,hi⟩:=Q.ins
 refine ⟨lm,vs,fs,⟨⟨dx,(k pl (by simp)).trans hi⟩,(k lm (by simp)).trans Q.lst,Q.len,Q.slots.frame fun b hb=>k b (by simp [hb]),Q.nd⟩,rfl⟩
theorem Places.none {t:Adr} {H:Hp} {pl:Addr} {os:List (Option Wm.PM)} {S:List Addr} (h:Places t H pl os S):∀ b,b ∈ S → H b ≠ none:=by
 obtain ⟨lm,vs,fs,Q,rfl⟩:=h
 obtain ⟨dx,hi⟩:=Q.ins
 intro b hb z
 rcases List.mem_cons.1 hb with e | hb
 ·rw [e,hi] at z; cases z
 rcases List.mem_cons.1 hb with e | hb
 ·rw [e,Q.lst] at z; cases z
 ·exact Q.slots.full b hb z
noncomputable def NoFrz:HO → Prop
 | .frz _ _=>False
 | _=>True
theorem Rows.kind {H:Hp}:∀ {as:List Addr} {rs:List (List Nat)},Rows H as rs → ∀ b,b ∈ as → ∃ o,H b = some o ∧ NoFrz o
 | [],_,_,_,h=>by cases h
 | _ :: _,[],h,_,_=>h.elim
 | a :: as,r :: rs,h,b,hb=>by
  rcases List.mem_cons.1 hb with e | e
  ·subst e; exact ⟨_,h.1,trivial⟩
  ·exact Rows.kind h.2 b e
theorem Sqs.kind {H:Hp}:∀ {ps:List (Addr × List Addr)} {qs:List (List (List Nat))},Sqs H ps qs → ∀ b,b ∈ sqF ps → ∃ o,H b = some o ∧ NoFrz o
 | [],_,_,_,h=>by cases h
 | _ :: _,[],h,_,_=>h.elim
 | p :: ps,q :: qs,h,b,hb=>by
  have hb:b ∈ (p.1 :: p.2) ++ sqF ps:=hb
  rcases List.mem_append.1 hb with e | e
  ·rcases List.mem_cons.1 e with e | e
   ·subst e; exact ⟨_,h.1,trivial⟩
   ·exact h.2.1.kind b e
  ·exact Sqs.kind h.2.2 b e
theorem Mach.kind {C:Addr} {H:Hp} {a:Addr} {m:Wm.PM} {S:List Addr} (h:Mach C H a m S):∀ b,b ∈ S → ∃ o,H b = some o ∧ NoFrz o:=by
 obtain ⟨dx,lf,ll,lh,ps,M,rfl⟩:=h
 intro b hb
 rcases List.mem_cons.1 hb with e | hb
 ·subst e; exact ⟨_,M.ins,trivial⟩
 rcases List.mem_cons.1 hb with e | hb
 ·subst e; exact ⟨_,M.fst,trivial⟩
 rcases List.mem_cons.1 hb with e | hb
 ·subst e; exact ⟨_,M.lst,trivial⟩
 rcases List.mem_cons.1 hb with e | hb
 ·subst e; exact ⟨_,M.hnd,trivial⟩
 ·exact M.sqs.kind b hb
theorem SlotAt.kind {C:Addr} {H:Hp} {v:V} {o:Option Wm.PM} {f:List Addr} (h:SlotAt C H v o f):∀ b,b ∈ f → ∃ o,H b = some o ∧ NoFrz o:=by
 rcases h.cases with ⟨_,_,rfl⟩ | ⟨a,m,_,_,M,_⟩
 ·intro b hb; cases hb
 ·exact M.kind
theorem Slots.kind {C:Addr} {H:Hp}:∀ {vs:List V} {os:List (Option Wm.PM)} {fs:List (List Addr)},Slots C H vs os fs → ∀ b,b ∈ fs.flatten → ∃ o,H b = some o ∧ NoFrz o
 | [],[],[],_,_,h=>by cases h
 | _ :: _,_ :: _,f :: fs,h,b,hb=>by
  rw [List.flatten_cons] at hb
  rcases List.mem_append.1 hb with hb | hb
  ·exact h.1.kind b hb
  ·exact Slots.kind h.2 b hb
 | [],[],_ :: _,h,_,_=>h.elim
 | [],_ :: _,_,h,_,_=>h.elim
 | _ :: _,[],_,h,_,_=>h.elim
 | _ :: _,_ :: _,[],h,_,_=>h.elim
theorem Places.kind {t:Adr} {H:Hp} {pl:Addr} {os:List (Option Wm.PM)} {S:List Addr} (h:Places t H pl os S):∀ b,b ∈ S → ∃ o,H b = some o ∧ NoFrz o:=by
 obtain ⟨lm,vs,fs,Q,rfl⟩:=h
 obtain ⟨dx,hi⟩:=Q.ins
 intro b hb
 rcases List.mem_cons.1 hb with e | hb
 ·subst e; exact ⟨_,hi,trivial⟩
 rcases List.mem_cons.1 hb with e | hb
 ·subst e; exact ⟨_,Q.lst,trivial⟩
 ·exact Q.slots.kind b hb
noncomputable def abs (os:List (Option Wm.PM)):Rc64.Abs:={ slots:=os.map fun o=>o.map Wm.PM.mach }
structure Moves (H H':Hp) (S S':List Addr):Prop where
 keep:∀ b o,H b = some o → b ∉ S → H' b = some o
 new:∀ b,b ∈ S' → b ∈ S ∨ H b = none
 more:∀ b,H' b = none → H b = none
section
variable {P:Program} {w:World} {K:PySem.W.Frag} {mg:Str → Option Value} {base:Heap} {t:Adr}
theorem mF1 (lm:Addr):(putF "machines" (.ref lm) ([]:List (Str × V))).lookup ("machines":Str) = some (.ref lm):=look_same ..
theorem mF1_no (lm:Addr) {m:Str} (h:¬ m = "machines"):(putF "machines" (.ref lm) ([]:List (Str × V))).lookup m = none:=by
 rw [look_ne _ _ h]; rfl
noncomputable def empty8:List (Option Wm.PM):=List.replicate 8 none
theorem slots_empty (C:Addr) (H:Hp):∀ n,Slots C H (List.replicate n V.non) (List.replicate n none) (List.replicate n [])
 | 0=>trivial
 | n + 1=>⟨rfl,slots_empty C H n⟩
theorem flat_empty:∀ n,(List.replicate n ([]:List Addr)).flatten = []
 | 0=>rfl
 | n + 1=>by rw [List.replicate_succ,List.flatten_cons,flat_empty n]; rfl
noncomputable def sp_Places_init (t:Adr):Sp:=fun vs H Q _=>∃ (pl dx:Addr) (fs:List (Str × V)),vs = [.ref pl] ∧ H pl = some (.ins t.c_Places dx fs) ∧ (fs = [] ∨ ∃ lm,fs = putF "machines" (.ref lm) []) ∧ ∀ (H':Hp) (S':List Addr),Places t H' pl empty8 S' → Moves H H' [pl] S' → Q .non H'
theorem places_empty {H:Hp} {pl dx p lm:Addr} {fs:List (Str × V)} (hf:fs = [] ∨ ∃ lm,fs = putF "machines" (.ref lm) []) (h:H pl = some (.ins t.c_Places dx fs)) (hp:H p = none) (hlm:upd H p (.lst [.non]) lm = none) :
  let H':=upd (upd (upd H p (.lst [.non])) lm (.lst (List.replicate (8:Int).toNat [V.non]).flatten)) pl (.ins t.c_Places dx (putF "machines" (.ref lm) fs))
  Places t H' pl empty8 [pl,lm] ∧ Moves H H' [pl] [pl,lm]:=by
 intro H'
 obtain ⟨n1,h1⟩:=upd_none hlm
 have n2:pl ≠ lm:=ne_of_none h h1
 have n3:pl ≠ p:=ne_of_none h hp
 have ef:putF "machines" (.ref lm) fs = putF "machines" (.ref lm) []:=by
  rcases hf with rfl | ⟨lm',rfl⟩
  ·rfl
  ·exact putF_putF ..
 refine ⟨⟨lm,List.replicate 8 V.non,List.replicate 8 [],⟨⟨dx,?_⟩,?_,rfl,slots_empty _ _ 8,?_⟩,by rw [flat_empty]⟩,fun b o e hb=>?_,fun b hb=>?_,fun b hb=>(upd_none (upd_none (upd_none hb).2).2).2⟩
 ·show upd _ pl _ pl = _
  rw [upd_same,ef]
 ·show upd _ pl _ lm = _
  rw [upd_ne n2.symm,upd_same]
  rfl
 ·rw [flat_empty]; simp [n2]
 ·have hb:b ≠ pl:=fun z=>hb (by simp [z])
  show upd _ pl _ b = _
  rw [upd_ne hb,upd_ne (ne_of_none e h1),upd_ne (ne_of_none e hp)]
  exact e
 ·have hb:b = pl ∨ b = lm:=by simpa using hb
  rcases hb with rfl | rfl
  ·exact .inl (by simp)
  ·exact .inr h1
theorem ok_Places_init (T:Txt K mg t):FnOk P w K mg base CX0 1 t.f_Places_init t.d_Places_init ["self"] (sp_Places_init t):=by
 refine T.F_Places_init.ok sc_Places_init (fun vs H Q E h=>?_) (fun cdv A outer s H vs Q E hr h=>?_)
 ·obtain ⟨a,dx,fs,rfl,_⟩:=h
  rfl
 ·obtain ⟨pl,dx,fs,rfl,h1,hf,k⟩:=h
  refine ⟨_,(pss_one (ps_fld (pv 0) (pe_op op_rep (pe_lst (pa_cons pe_non pa_nil)) (pe_glob (v:=.int 8) rfl T.m_PLACES ⟨_,rfl⟩)) rfl)),?_⟩
  refine ⟨by show 1 ≤ sizeLine; decide,fun p hp=>⟨p,8,_,rfl,rfl,upd_same,by decide,by decide,by show 1 * (8:Int).toNat ≤ sizeLine; decide,fun lm hlm=>?_⟩⟩
  obtain ⟨n1,h2⟩:=upd_none hlm
  refine ⟨_,rfl,pl,_,dx,_,rfl,by rw [upd_ne (ne_of_none h1 h2),upd_ne (ne_of_none h1 hp)]; exact h1,T.cl_Places,T.na_Places_machines,?_,?_⟩
  ·rcases hf with rfl | ⟨_,rfl⟩
   ·show 0 < 1000; decide
   ·show 1 < 1000; decide
  ·obtain ⟨q1,q2⟩:=places_empty hf h1 hp hlm
   exact k _ _ q1 q2
theorem ok_Places_make_empty (T:Txt K mg t):FnOk P w K mg base CX0 1 t.f_Places_make_empty t.d_Places_make_empty ["self"] (sp_Places_init t):=by
 refine T.F_Places_make_empty.ok sc_Places_make_empty (fun vs H Q E h=>?_) (fun cdv A outer s H vs Q E hr h=>?_)
 ·obtain ⟨a,dx,fs,rfl,_⟩:=h
  rfl
 ·obtain ⟨pl,dx,fs,rfl,h1,hf,k⟩:=h
  refine ⟨_,(pss_one (ps_fld (pv 0) (pe_op op_rep (pe_lst (pa_cons pe_non pa_nil)) (pe_glob (v:=.int 8) rfl T.m_PLACES ⟨_,rfl⟩)) rfl)),?_⟩
  refine ⟨by show 1 ≤ sizeLine; decide,fun p hp=>⟨p,8,_,rfl,rfl,upd_same,by decide,by decide,by show 1 * (8:Int).toNat ≤ sizeLine; decide,fun lm hlm=>?_⟩⟩
  obtain ⟨n1,h2⟩:=upd_none hlm
  refine ⟨_,rfl,pl,_,dx,_,rfl,by rw [upd_ne (ne_of_none h1 h2),upd_ne (ne_of_none h1 hp)]; exact h1,T.cl_Places,T.na_Places_machines,?_,?_⟩
  ·rcases hf with rfl | ⟨_,rfl⟩
   ·show 0 < 1000; decide
   ·show 1 < 1000; decide
  ·obtain ⟨q1,q2⟩:=places_empty hf h1 hp hlm
   exact k _ _ q1 q2
end
end Wp
namespace Wp
open PySem PySem.Spec PyProof.Rows L2
open PySem.W (Codec)
section
variable {P:Program} {w:World} {K:PySem.W.Frag} {mg:Str → Option Value} {base:Heap} {t:Adr}
noncomputable def sp_machine_at (t:Adr):Sp:=fun vs H Q _=>∃ (pl lm:Addr) (us:List V) (os:List (Option Wm.PM)) (fs:List (List Addr)) (i:Int),vs = [.ref pl,.int i] ∧ PlacesAt t H pl lm us os fs ∧
 Q (if 0 ≤ i ∧ i < 8 then us.getD i.toNat .non else .non) H
theorem ok_Places_machine_at (T:Txt K mg t):FnOk P w K mg base CX0 2 t.f_Places_machine_at t.d_Places_machine_at ["self","slot"] (sp_machine_at t):=by
 refine T.F_Places_machine_at.ok sc_Places_machine_at (fun vs H Q E h=>?_) (fun cdv A outer s H vs Q E hr h=>?_)
 ·obtain ⟨pl,lm,us,os,fs,i,rfl,_⟩:=h
  rfl
 ·obtain ⟨pl,lm,us,os,fs,i,rfl,PA,k⟩:=h
  obtain ⟨dx,hi⟩:=PA.ins
  refine ⟨_,(pss_cons (ps_if (pt_not (pt_truth (pe_call (ok_is_place T) (hr.mono (by decide)) rfl T.m_is_place T.F_is_place.kp (T.F_is_place.binds b_is_place) .nil pass0 (pa_cons (pv 1) pa_nil)) (fun _=>rfl))) (pss_one (ps_ret pe_non)) pss_nil)
   (pss_one (ps_ret (pe_ix ix_list (pe_fld (pv 0) rfl) (pv 1) (fun _ _=>rfl))))),?_⟩
  refine ⟨_,rfl,i,rfl,_,rfl,?_⟩
  by_cases hc:0 ≤ i ∧ i < 8
  ·rw [if_pos hc] at k
   refine itN (by simp [hc]) ?_
   have hl:us.length = 8:=by rw [PA.slots.len.1,PA.len]
   have hlt:i.toNat < us.length:=by omega
   refine ⟨_,rfl,pl,_,dx,_,_,rfl,hi,T.cl_Places,T.na_Places_machines,mF1 lm,_,rfl,lm,_,_,_,rfl,rfl,SqL.of PA.lst,at_of (j:=i.toNat) (v:=us.getD i.toNat .non) (by omega) ?_,k⟩
   rw [Wm.getD_lt hlt,List.getElem?_eq_getElem hlt]
  ·rw [if_neg hc] at k
   refine itY (by simp [hc]) ?_
   exact k
noncomputable def sp_put (t:Adr):Sp:=fun vs H Q _=>∃ (pl lm:Addr) (us:List V) (os:List (Option Wm.PM)) (i:Int) (a dx:Addr),vs = [.ref pl,.int i,.ref a] ∧ H pl = some (.ins t.c_Places dx (putF "machines" (.ref lm) [])) ∧ H lm = some (.lst us) ∧ us.length = 8 ∧ 0 ≤ i ∧ i < 8 ∧
 Q .non (upd H lm (.lst (us.set i.toNat (.ref a))))
theorem ok_Places_put (T:Txt K mg t):FnOk P w K mg base CX0 1 t.f_Places_put t.d_Places_put ["self","slot","machine"] (sp_put t):=by
 refine T.F_Places_put.ok sc_Places_put (fun vs H Q E h=>?_) (fun cdv A outer s H vs Q E hr h=>?_)
 ·obtain ⟨pl,lm,us,os,i,a,dx,rfl,_⟩:=h
  rfl
 ·obtain ⟨pl,lm,us,os,i,a,dx,rfl,hi,hl,h8,h0,h1,k⟩:=h
  refine ⟨_,(pss_one (ps_asg (pv 2) (pg_sub (pe_fld (pv 0) rfl) (pv 1) set_list))),?_⟩
  refine ⟨_,rfl,_,rfl,pl,_,dx,_,_,rfl,hi,T.cl_Places,T.na_Places_machines,mF1 lm,_,rfl,lm,us,i,i.toNat,rfl,rfl,hl,?_,k⟩
  unfold ixN
  rw [if_pos h0,if_pos (by omega)]
theorem drop_cons {ns:List Int} {p:Nat} {x:Int} {r:List Int} (h:ns.drop p = x :: r):ns[p]? = some x ∧ ns.drop (p + 1) = r:=by
 have h1:(ns.drop p)[0]? = some x:=by rw [h]; rfl
 rw [List.getElem?_drop,Nat.add_zero] at h1
 refine ⟨h1,?_⟩
 have h2:=congrArg (List.drop 1) h
 rw [List.drop_drop] at h2
 exact h2
theorem take_ok {σ:L2.St} {H:Hp} {Q:VK} {rd a:Addr} {ns r:List Int} {p:Nat} {x:Int} {i:Nat} (h1:σ[i]? = some (some (.ref rd))) (R:ReaderAt K t.c_Reader H rd a ns p) (e:ns.drop p = x :: r)
  (k:∀ H',ReaderAt K t.c_Reader H' rd a ns (p + 1) → (∀ b,b ≠ rd → H' b = H b) → ns.drop (p + 1) = r → Q (.int x) H'):tMeth t.c_Reader "take" (sp_Reader_take K t) [] E0 (tVar i) tNil σ H Q:=by
 obtain ⟨e1,e2⟩:=drop_cons e
 obtain ⟨dx,hi⟩:=R.ins
 exact ⟨_,h1,rd,dx,_,rfl,hi,rF_no _ _ (by decide +kernel) (by decide +kernel),rd,a,ns,p,x,rfl,R,e1,fun H' R' k'=>k H' R' k' e2⟩
noncomputable def ansV (a:Rc64.Ans):List V:=.int a.value :: a.numbers.map fun (x:Nat)=>V.int (x:Int)
structure Done (K:PySem.W.Frag) (t:Adr) (H H':Hp) (pl rd a:Addr) (ns tl:List Int) (os os':List (Option Wm.PM)) (S S':List Addr) (pos':Nat):Prop where
 plc:Places t H' pl os' S'
 rdr:ReaderAt K t.c_Reader H' rd a ns pos'
 tll:ns.drop pos' = tl
 mv:Moves H H' (rd :: S) (rd :: S')
 nr:rd ∉ S'
noncomputable def sp_call (K:PySem.W.Frag) (t:Adr) (p:Int):Sp:=fun vs H Q _=>∃ (pl rd a:Addr) (ns r tl:List Int) (pos:Nat) (os:List (Option Wm.PM)) (S:List Addr) (c:List (List Int)) (q:Rc64.Call),
 vs = [.ref pl,.ref rd] ∧ Places t H pl os S ∧ ReaderAt K t.c_Reader H rd a ns pos ∧ rd ∉ S ∧ ns.drop pos = r ∧ Wm.Reads p r tl c q ∧ Rc64Neutral.asked1 c = true ∧
 ∀ (H':Hp) (l:Addr) (os':List (Option Wm.PM)) (S':List Addr) (pos':Nat) (an:Rc64.Ans),Done K t H H' pl rd a ns tl os os' S S' pos' → Wm.DoesR (abs os) q (abs os') an → H l = none → l ∉ rd :: S' → H' l = some (.lst (ansV an)) → Q (.ref l) H'
theorem Places.read {H H1:Hp} {pl rd:Addr} {os:List (Option Wm.PM)} {S:List Addr} (h:Places t H pl os S) (hr:rd ∉ S) (k:∀ b,b ≠ rd → H1 b = H b):Places t H1 pl os S :=
 h.frame fun b hb=>k b fun z=>hr (z ▸ hb)
theorem Done.same {H H1:Hp} {pl rd a:Addr} {ns tl:List Int} {os:List (Option Wm.PM)} {S:List Addr} {p1:Nat} (h:Places t H pl os S) (hr:rd ∉ S) (R:ReaderAt K t.c_Reader H1 rd a ns p1) (hR:H rd ≠ none) (e:ns.drop p1 = tl) (k:∀ b,b ≠ rd → H1 b = H b) :
  Done K t H H1 pl rd a ns tl os os S S p1:=by
 refine ⟨h.read hr k,R,e,⟨fun b o eb hb=>?_,fun b hb=>.inl hb,fun b hb=>?_⟩,hr⟩
 ·rw [k b fun z=>hb (by simp [z])]; exact eb
 ·by_cases z:b = rd
  ·obtain ⟨dx,hi⟩:=R.ins
   rw [z,hi] at hb; cases hb
  ·rw [k b z] at hb; exact hb
theorem Done.list {H H1:Hp} {pl rd a l:Addr} {ns tl:List Int} {os os':List (Option Wm.PM)} {S S':List Addr} {p1:Nat} {o:HO} (d:Done K t H H1 pl rd a ns tl os os' S S' p1) (hl:H1 l = none) :
  Done K t H (upd H1 l o) pl rd a ns tl os os' S S' p1 ∧ H l = none ∧ l ∉ rd :: S':=by
 obtain ⟨dx,hi⟩:=d.rdr.ins
 have n1:rd ≠ l:=ne_of_none hi hl
 have n2:∀ b,b ∈ S' → b ≠ l:=fun b hb z=>d.plc.none b hb (by rw [z]; exact hl)
 refine ⟨⟨d.plc.frame fun b hb=>upd_ne (n2 b hb),⟨⟨dx,by rw [upd_ne n1]; exact hi⟩,d.rdr.seq.frame fun b o u e=>by rw [upd_ne (ne_of_none e hl)]; exact e,d.rdr.le,d.rdr.few⟩,d.tll,⟨fun b o e hb=>?_,d.mv.new,fun b hb=>d.mv.more b (upd_none hb).2⟩,d.nr⟩,d.mv.more l hl,fun z=>?_⟩
 ·have e1:=d.mv.keep b o e hb
  rw [upd_ne (ne_of_none e1 hl)]; exact e1
 ·rcases List.mem_cons.1 z with z | z
  ·exact n1 z.symm
  ·exact n2 l z rfl
theorem ok_begin (T:Txt K mg t):FnOk P w K mg base CX0 2 t.f_begin t.d_begin ["places","reader"] (sp_call K t 0):=by
 refine T.F_begin.ok sc_begin (fun vs H Q E h=>?_) (fun cdv A outer s H vs Q E hr h=>?_)
 ·obtain ⟨pl,rd,a,ns,r,tl,pos,os,S,c,q,rfl,_⟩:=h
  rfl
 ·obtain ⟨pl,rd,a,ns,r,tl,pos,os,S,c,q,rfl,hP,hR,hrS,er,rr,ha,k⟩:=h
  obtain ⟨rfl,rfl,rfl⟩:=rr.i0
  clear rr
  obtain ⟨lm,us,fs,PA,hS⟩:=hP
  obtain ⟨dx,hi⟩:=PA.ins
  obtain ⟨dr,hri⟩:=hR.ins
  refine ⟨_,(pss_cons (ps_expr (pe_meth0 (pv 0) T.cl_Places T.me_Places_make_empty (ok_Places_make_empty T) (hr.mono (by decide)) (T.F_Places_make_empty.binds b_Places_make_empty) .nil pass0 ))
   (pss_one (ps_ret (pe_lst (pa_cons (pe_glob (v:=.int 0) rfl T.m_DONE ⟨_,rfl⟩) pa_nil))))),?_⟩
  refine ⟨_,rfl,pl,dx,_,rfl,hi,mF1_no _ (by decide +kernel),pl,dx,_,rfl,hi,.inr ⟨_,rfl⟩,fun H' S' hP' mv=>?_⟩
  refine ⟨by show 1 ≤ sizeLine; decide,fun l hl=>?_⟩
  have npr:rd ≠ pl:=fun z=>hrS (by rw [hS]; simp [z])
  have hrd':H' rd = _:=mv.keep rd _ hri (by simp [npr])
  have hrS':rd ∉ S':=fun z=>by
   rcases mv.new rd z with z | z
   ·exact npr (by simpa using z)
   ·rw [hri] at z; cases z
  have hS':∀ b,b ∈ S' → b ∈ S ∨ H b = none:=fun b hb=>by
   rcases mv.new b hb with z | z
   ·have:b = pl:=by simpa using z
    exact .inl (by rw [hS]; simp [this])
   ·exact .inr z
  have d:Done K t H H' pl rd a ns tl os empty8 S S' pos:=by
   refine ⟨hP',⟨⟨dr,hrd'⟩,hR.seq.frame fun b o u e=>mv.keep b _ e fun z=>?_,hR.le,hR.few⟩,er,⟨fun b o e hb=>mv.keep b o e fun z=>hb ?_,fun b hb=>?_,mv.more⟩,hrS'⟩
   ·have:b = pl:=by simpa using z
    rw [this,hi] at e; cases e
   ·have:b = pl:=by simpa using z
    rw [this,hS]; simp
   ·rcases List.mem_cons.1 hb with z | z
    ·exact .inl (by simp [z])
    ·rcases hS' b z with y | y
     ·exact .inl (List.mem_cons_of_mem _ y)
     ·exact .inr y
  obtain ⟨d2,hl0,hlS⟩:=d.list (o:=.lst [.int 0]) hl
  exact k _ l empty8 S' pos { value:=0 } d2 rfl hl0 hlS upd_same
end
end Wp
namespace Wp
open PySem PySem.Spec PyProof.Rows L2
open PySem.W (Codec)
section
variable {P:Program} {w:World} {K:PySem.W.Frag} {mg:Str → Option Value} {base:Heap} {t:Adr}
theorem abs_put (os:List (Option Wm.PM)) (i:Int) (m:Wm.PM):Rc64.put (abs os) i m.mach = abs (os.set i.toNat (some m)):=by
 unfold Rc64.put abs
 rw [List.map_set]
 rfl
theorem abs_at (os:List (Option Wm.PM)) (h:os.length = 8) (i:Int):Rc64.at_ (abs os) i = if 0 ≤ i ∧ i < 8 then (os.getD i.toNat none).map Wm.PM.mach else none:=by
 unfold Rc64.at_ abs
 by_cases h0:i < 0
 ·rw [if_pos h0,if_neg (by omega)]
 ·rw [if_neg h0]
  by_cases h8:i < 8
  ·rw [if_pos ⟨by omega,h8⟩]
   have hlt:i.toNat < os.length:=by omega
   rw [Wm.getD_lt (by rw [List.length_map]; exact hlt),Wm.getD_lt hlt,List.getElem_map]
  ·rw [if_neg (by omega),Wm.getD_ge (by rw [List.length_map]; omega)]
theorem PlacesAt.put {H H':Hp} {pl lm a:Addr} {vs:List V} {os:List (Option Wm.PM)} {fs:List (List Addr)} {S':List Addr} {m:Wm.PM} {i:Int} (PA:PlacesAt t H pl lm vs os fs) (h0:0 ≤ i) (h8:i < 8)
  (hs:Same H H') (M:Mach t.c_Machine H' a m S') (hn:m.n ≤ 32) (hk:m.k ≤ 4) (hf:∀ b,b ∈ S' → H b = none) :
  ∃ S2,Places t (upd H' lm (.lst (vs.set i.toNat (.ref a)))) pl (os.set i.toNat (some m)) S2 ∧ Moves H (upd H' lm (.lst (vs.set i.toNat (.ref a)))) (pl :: lm :: fs.flatten) S2:=by
 obtain ⟨dx,hi⟩:=PA.ins
 have hlen:fs.length = 8:=by rw [PA.slots.len.2,PA.len]
 have hlt:i.toNat < fs.length:=by omega
 obtain ⟨f,hfi⟩:∃ f,fs[i.toNat]? = some f:=⟨_,List.getElem?_eq_getElem hlt⟩
 have nd:=PA.nd
 obtain ⟨nd1,nd2⟩:=List.nodup_cons.1 nd
 obtain ⟨nd3,nd4⟩:=List.nodup_cons.1 nd2
 have npl:pl ≠ lm:=fun z=>nd1 (by simp [z])
 have nS:∀ b,b ∈ S' → b ≠ lm:=fun b hb z=>by
  have:=hf b hb
  rw [z,PA.lst] at this; cases this
 have nF:∀ b,b ∈ fs.flatten → b ≠ lm:=fun b hb z=>nd3 (z ▸ hb)
 have M':Mach t.c_Machine (upd H' lm (.lst (vs.set i.toNat (.ref a)))) a m S':=M.frame fun b hb=>upd_ne (nS b hb)
 obtain ⟨q1,q2,q3⟩:=Slots.set (H':=fun b=>if b = lm then H lm else upd H' lm (.lst (vs.set i.toNat (.ref a))) b) PA.slots nd4 (i:=i.toNat) (f:=f) (f':=S') (v:=.ref a) (o:=some m) hfi
  (fun b hb _=>by
   by_cases z:b = lm
   ·simp only [z,if_true]
   ·simp only [z,if_false]
    rw [upd_ne z]
    exact same_eq hs hb)
  ⟨M.frame fun b hb=>by
   simp only [nS b hb,if_false]
   exact upd_ne (nS b hb),hn,hk⟩ (fun b hb=>.inr (hf b hb)) M.nodup
 have q1':Slots t.c_Machine (upd H' lm (.lst (vs.set i.toNat (.ref a)))) (vs.set i.toNat (.ref a)) (os.set i.toNat (some m)) (fs.set i.toNat S'):=by
  refine q1.frame fun b hb=>?_
  have z:b ≠ lm:=fun z=>by
   rcases q3 b hb with y | y
   ·exact nF b y z
   ·rw [z,PA.lst] at y; cases y
  simp only [z,if_false]
 refine ⟨pl :: lm :: (fs.set i.toNat S').flatten,⟨lm,_,_,⟨⟨dx,by rw [upd_ne npl]; exact hs _ _ hi⟩,upd_same,by rw [List.length_set]; exact PA.len,q1',?_⟩,rfl⟩,fun b o e hb=>?_,fun b hb=>?_,fun b hb=>hs.free (upd_none hb).2⟩
 ·refine List.nodup_cons.2 ⟨fun z=>?_,List.nodup_cons.2 ⟨fun z=>?_,q2⟩⟩
  ·rcases List.mem_cons.1 z with z | z
   ·exact npl z
   ·rcases q3 pl z with y | y
    ·exact nd1 (List.mem_cons_of_mem _ y)
    ·rw [hi] at y; cases y
  ·rcases q3 lm z with y | y
   ·exact nd3 y
   ·rw [PA.lst] at y; cases y
 ·have z:b ≠ lm:=fun z=>hb (by simp [z])
  rw [upd_ne z]
  exact hs b o e
 ·rcases List.mem_cons.1 hb with z | hb
  ·exact .inl (by simp [z])
  rcases List.mem_cons.1 hb with z | hb
  ·exact .inl (by simp [z])
  ·rcases q3 b hb with y | y
   ·exact .inl (List.mem_cons_of_mem _ (List.mem_cons_of_mem _ y))
   ·exact .inr y
theorem Done.next {H H1 H2:Hp} {pl rd a:Addr} {ns tl:List Int} {os os1 os2:List (Option Wm.PM)} {S S1 S2:List Addr} {p1:Nat} (d:Done K t H H1 pl rd a ns tl os os1 S S1 p1) (P2:Places t H2 pl os2 S2) (mv:Moves H1 H2 S1 S2) :
  Done K t H H2 pl rd a ns tl os os2 S S2 p1:=by
 obtain ⟨dx,hi⟩:=d.rdr.ins
 refine ⟨P2,⟨⟨dx,mv.keep _ _ hi d.nr⟩,d.rdr.seq.frame fun b o u e=>mv.keep b _ e fun z=>?_,d.rdr.le,d.rdr.few⟩,d.tll,⟨fun b o e hb=>?_,fun b hb=>?_,fun b hb=>d.mv.more b (mv.more b hb)⟩,fun z=>?_⟩
 ·obtain ⟨o',e',hn⟩:=d.plc.kind b z
  rw [e] at e'
  obtain rfl:=Option.some.inj e'
  exact hn
 ·have e1:=d.mv.keep b o e hb
  refine mv.keep b o e1 fun z=>?_
  rcases d.mv.new b (List.mem_cons_of_mem _ z) with y | y
  ·exact hb y
  ·rw [e] at y; cases y
 ·rcases List.mem_cons.1 hb with z | z
  ·exact .inl (by simp [z])
  ·rcases mv.new b z with y | y
   ·exact d.mv.new b (List.mem_cons_of_mem _ y)
   ·exact .inr (d.mv.more b y)
 ·rcases mv.new rd z with y | y
  ·exact d.nr y
  ·rw [hi] at y; cases y
theorem chain_ok {σ:L2.St} {H:Hp} {Q:Bool → Hp → Prop} {i:Nat} {x lo hi:Int} (h:σ[i]? = some (some (.int x))) (k:Q (decide (lo ≤ x ∧ x ≤ hi)) H) :
  tTest (tChain (rI0 fun i j=>.bl (decide (i ≤ j))) (rI0 fun i j=>.bl (decide (i ≤ j))) (tC (.int lo)) (tVar i) (tC (.int hi))) σ H Q:=by
 refine ⟨_,h,_,_,rfl,rfl,_,rfl,?_⟩
 by_cases h0:lo ≤ x
 ·refine itY (decide_eq_true h0) ?_
  refine ⟨_,_,rfl,rfl,_,rfl,?_⟩
  have e:decide (lo ≤ x ∧ x ≤ hi) = decide (x ≤ hi):=by simp [h0]
  rw [e] at k
  exact k
 ·refine itN (decide_eq_false h0) ?_
  refine ⟨_,rfl,?_⟩
  have e:decide (lo ≤ x ∧ x ≤ hi) = false:=by simp [h0]
  rw [e] at k
  exact k
theorem ok_new (T:Txt K mg t):FnOk P w K mg base CX0 7 t.f_new t.d_new ["places","reader"] (sp_call K t 1):=by
 refine T.F_new.ok sc_new (fun vs H Q E h=>?_) (fun cdv A outer s H vs Q E hr h=>?_)
 ·obtain ⟨pl,rd,a,ns,r,tl,pos,os,S,c,q,rfl,_⟩:=h
  rfl
 ·obtain ⟨pl,rd,a,ns,r,tl,pos,os,S,c,q,rfl,hP,hR,hrS,er,rr,ha,k⟩:=h
  obtain ⟨sl,n,kk,rfl,rfl,rfl⟩:=rr.i1
  clear rr
  obtain ⟨dr,hri⟩:=hR.ins
  refine ⟨_,(pss_cons (ps_set (i:=2) sc_new.nd rfl (Or.inl rfl) (pe_meth0 (pv 1) T.cl_Reader T.me_Reader_take (ok_Reader_take T) (hr.mono (by decide)) (T.F_Reader_take.binds b_Reader_take) .nil pass0 ))
   (pss_cons (ps_set (i:=3) sc_new.nd rfl (Or.inl rfl) (pe_meth0 (pv 1) T.cl_Reader T.me_Reader_take (ok_Reader_take T) (hr.mono (by decide)) (T.F_Reader_take.binds b_Reader_take) .nil pass0 ))
   (pss_cons (ps_set (i:=4) sc_new.nd rfl (Or.inl rfl) (pe_meth0 (pv 1) T.cl_Reader T.me_Reader_take (ok_Reader_take T) (hr.mono (by decide)) (T.F_Reader_take.binds b_Reader_take) .nil pass0 ))
   (pss_cons (ps_if (PW.pt (pw_or (pt_not (pt_truth (pe_call (ok_is_place T) (hr.mono (by decide)) rfl T.m_is_place T.F_is_place.kp (T.F_is_place.binds b_is_place) .nil pass0 (pa_cons (pv 2) pa_nil)) (fun _=>rfl))) (pw_or (pt_not (pt_chain op_le op_le pe_int (pv 3) (pe_glob (v:=.int 32) rfl T.m_MOST_STATES ⟨_,rfl⟩))) (pw_or1 (pt_not (pt_chain op_le op_le pe_int (pv 4) (pe_glob (v:=.int 4) rfl T.m_MOST_LETTERS ⟨_,rfl⟩))))))) (pss_one (ps_ret (pe_lst (pa_cons (pe_glob (v:=.int (-1)) rfl T.m_REFUSED ⟨_,rfl⟩) pa_nil)))) pss_nil)
   (pss_cons (ps_expr (pe_meth (pv 0) T.cl_Places T.me_Places_put (ok_Places_put T) (hr.mono (by decide)) (T.F_Places_put.binds b_Places_put) .nil pass0 (pa_cons (pv 2) (pa_cons (pe_call (ok_machine_of_zeros T) (hr.mono (by decide)) rfl T.m_machine_of_zeros T.F_machine_of_zeros.kp (T.F_machine_of_zeros.binds b_machine_of_zeros) .nil pass0 (pa_cons (pv 3) (pa_cons (pv 4) pa_nil))) pa_nil))))
   (pss_one (ps_ret (pe_lst (pa_cons (pe_glob (v:=.int 0) rfl T.m_DONE ⟨_,rfl⟩) pa_nil))))))))),?_⟩
  refine take_ok rfl hR er fun H1 R1 k1 e1=>?_
  refine take_ok rfl R1 e1 fun H2 R2 k2 e2=>?_
  refine take_ok rfl R2 e2 fun H3 R3 k3 e3=>?_
  have k03:∀ b,b ≠ rd → H3 b = H b:=fun b hb=>by rw [k3 b hb,k2 b hb,k1 b hb]
  have hrn:H rd ≠ none:=by rw [hri]; intro z; cases z
  have D0:=Done.same hP hrS R3 hrn e3 k03
  have ref:Rc64.isSlot sl = false ∨ n < 1 ∨ (Rc64.STATES:Int) < n ∨ kk < 1 ∨ (Rc64.LETTERS:Int) < kk → ∀ l,H3 l = none → Q (.ref l) (upd H3 l (.lst [.int (-1)])):=fun hc l hl=>by
   obtain ⟨d2,hl0,hlS⟩:=D0.list (o:=.lst [.int (-1)]) hl
   refine k _ l os S _ Rc64.refused d2 ?_ hl0 hlS upd_same
   show Rc64.does (abs os) (.new sl n kk) = _
   unfold Rc64.does
   simp only
   rw [if_pos hc]
  refine ⟨_,rfl,sl,rfl,_,rfl,?_⟩
  by_cases hc1:¬ (0 ≤ sl ∧ sl < 8)
  ·refine itY (by simp [hc1]) ?_
   refine itY rfl ?_
   refine ⟨by show 1 ≤ sizeLine; decide,ref (.inl ?_)⟩
   cases hz:Rc64.isSlot sl with
   | false=>rfl
   | true=>exact absurd (Wm.slot_iff.1 hz) hc1
  have hc1:0 ≤ sl ∧ sl < 8:=Classical.byContradiction hc1
  refine itN (by simp [hc1]) ?_
  refine chain_ok rfl ?_
  by_cases hc2:¬ (1 ≤ n ∧ n ≤ 32)
  ·refine itY (by simp [hc2]) ?_
   refine itY rfl ?_
   refine ⟨by show 1 ≤ sizeLine; decide,ref (.inr ?_)⟩
   simp only [Rc64.STATES]
   omega
  have hc2:1 ≤ n ∧ n ≤ 32:=Classical.byContradiction hc2
  refine itN (by simp [hc2]) ?_
  refine chain_ok rfl ?_
  by_cases hc3:¬ (1 ≤ kk ∧ kk ≤ 4)
  ·refine itY (by simp [hc3]) ?_
   refine ⟨by show 1 ≤ sizeLine; decide,ref (.inr ?_)⟩
   simp only [Rc64.LETTERS]
   omega
  have hc3:1 ≤ kk ∧ kk ≤ 4:=Classical.byContradiction hc3
  refine itN (by simp [hc3]) ?_
  obtain ⟨n,rfl⟩:∃ m:Nat,n = (m:Int):=⟨n.toNat,by omega⟩
  obtain ⟨kk,rfl⟩:∃ m:Nat,kk = (m:Int):=⟨kk.toNat,by omega⟩
  obtain ⟨lm,us,fs,PA,hS⟩:=D0.plc
  obtain ⟨dx,hi⟩:=PA.ins
  have hus:us.length = 8:=by rw [PA.slots.len.1,PA.len]
  refine ⟨_,rfl,pl,dx,_,rfl,hi,mF1_no _ (by decide +kernel),_,rfl,_,rfl,_,rfl,Wm.PM.zero n kk,⟨n,kk,rfl,by omega,by omega,rfl⟩,fun H4 x S4 s34 M4 f4'=>?_⟩
  refine ⟨pl,lm,us,os,sl,x,dx,rfl,s34 _ _ hi,s34 _ _ PA.lst,hus,hc1.1,hc1.2,?_⟩
  obtain ⟨S5,P5,mv5⟩:=PA.put hc1.1 hc1.2 s34 M4 (by show n ≤ 32; omega) (by show kk ≤ 4; omega) f4'
  rw [← hS] at mv5
  generalize upd H4 lm (.lst (us.set sl.toNat (.ref x))) = H5 at P5 mv5 ⊢
  obtain ⟨dr3,hri3⟩:=R3.ins
  have nr5:rd ∉ S5:=fun z=>by
   rcases mv5.new rd z with y | y
   ·exact hrS y
   ·rw [hri3] at y; cases y
  have D5:Done K t H H5 pl rd a ns tl os (os.set sl.toNat (some (Wm.PM.zero n kk))) S S5 (pos + 1 + 1 + 1):=D0.next P5 mv5
  refine ⟨by show 1 ≤ sizeLine; decide,fun l hl=>?_⟩
  obtain ⟨d6,hl0,hlS⟩:=D5.list (o:=.lst [.int 0]) hl
  refine k _ l _ S5 _ { value:=0 } d6 ?_ hl0 hlS upd_same
  show Rc64.does (abs os) (.new sl n kk) = _
  unfold Rc64.does
  simp only
  rw [if_neg]
  ·show (Rc64.put (abs os) sl (Rc64.made n kk _ _ _),_) = _
   rw [← Wm.PM.zero_mach,abs_put]
  ·have:Rc64.isSlot sl = true:=Wm.slot_iff.2 hc1
   simp only [this,Rc64.STATES,Rc64.LETTERS]
   simp
   omega
end
end Wp
namespace Wp
open PySem PySem.Spec PyProof.Rows L2
open PySem.W (Codec)
theorem MachAt.setF {C:Addr} {H:Hp} {a:Addr} {m:Wm.PM} {dx lf ll lh:Addr} {ps:List (Addr × List Addr)} (M:MachAt C H a m dx lf ll lh ps) (i x:Nat) (hx:x < Rc64.P) :
  MachAt C (upd H lf (.lst (nums (m.f.set i x)))) a { m with f:=m.f.set i x } dx lf ll lh ps:=by
 have nd:=M.nd
 simp only [List.nodup_cons,List.mem_cons,not_or] at nd
 obtain ⟨⟨n1,n2,n3,n4⟩,⟨n5,n6,n7⟩,⟨n8,n9⟩,n10,n11⟩:=nd
 refine ⟨⟨by show (m.f.set i x).length = m.n; rw [List.length_set]; exact M.ok.fl,M.ok.ll,M.ok.hl,M.ok.ql,M.ok.rl,?_,M.ok.lb,M.ok.hb⟩,by rw [upd_ne n1]; exact M.ins,upd_same,by rw [upd_ne (Ne.symm n5)]; exact M.lst,by rw [upd_ne (Ne.symm n6)]; exact M.hnd,M.sqs.frame fun b hb=>upd_ne fun z=>n7 (z ▸ hb),M.nd⟩
 intro y hy
 rcases List.mem_or_eq_of_mem_set hy with g | g
 ·exact M.ok.fb y g
 ·exact g ▸ hx
theorem MachAt.setL {C:Addr} {H:Hp} {a:Addr} {m:Wm.PM} {dx lf ll lh:Addr} {ps:List (Addr × List Addr)} (M:MachAt C H a m dx lf ll lh ps) (i x:Nat) (hx:x < Rc64.P) :
  MachAt C (upd H ll (.lst (nums (m.l.set i x)))) a { m with l:=m.l.set i x } dx lf ll lh ps:=by
 have nd:=M.nd
 simp only [List.nodup_cons,List.mem_cons,not_or] at nd
 obtain ⟨⟨n1,n2,n3,n4⟩,⟨n5,n6,n7⟩,⟨n8,n9⟩,n10,n11⟩:=nd
 refine ⟨⟨M.ok.fl,by show (m.l.set i x).length = m.n; rw [List.length_set]; exact M.ok.ll,M.ok.hl,M.ok.ql,M.ok.rl,M.ok.fb,?_,M.ok.hb⟩,by rw [upd_ne n2]; exact M.ins,by rw [upd_ne n5]; exact M.fst,upd_same,by rw [upd_ne (Ne.symm n8)]; exact M.hnd,M.sqs.frame fun b hb=>upd_ne fun z=>n9 (z ▸ hb),M.nd⟩
 intro y hy
 rcases List.mem_or_eq_of_mem_set hy with g | g
 ·exact M.ok.lb y g
 ·exact g ▸ hx
theorem MachAt.setH {C:Addr} {H:Hp} {a:Addr} {m:Wm.PM} {dx lf ll lh:Addr} {ps:List (Addr × List Addr)} (M:MachAt C H a m dx lf ll lh ps) {b i j x:Nat} (hb:b < m.k) (hi:i < m.n) (hx:x < Rc64.P) {p:Addr × List Addr} {c:Addr}
  (hp:ps[b]? = some p) (hc:p.2[i]? = some c) :
  MachAt C (upd H c (.lst (nums (((m.h.getD b []).getD i []).set j x)))) a { m with h:=Wm.set3 m.h b i j x } dx lf ll lh ps:=by
 have nd:=M.nd
 simp only [List.nodup_cons,List.mem_cons,not_or] at nd
 obtain ⟨⟨n1,n2,n3,n4⟩,⟨n5,n6,n7⟩,⟨n8,n9⟩,n10,n11⟩:=nd
 have hcF:c ∈ sqF ps:=mem_sqF hp (List.mem_cons_of_mem _ (List.mem_of_getElem? hc))
 have nc:∀ y,¬ y ∈ sqF ps → y ≠ c:=fun y hy z=>hy (z ▸ hcF)
 have hb':b < m.h.length:=by rw [M.ok.hl]; exact hb
 refine ⟨Wm.set3_ok M.ok hb hi hx,by rw [upd_ne (nc a n4)]; exact M.ins,by rw [upd_ne (nc lf n7)]; exact M.fst,by rw [upd_ne (nc ll n9)]; exact M.lst,by rw [upd_ne (nc lh n10)]; exact M.hnd,?_,M.nd⟩
 exact M.sqs.set n11 _ hp (by rw [Wm.getD_lt hb',List.getElem?_eq_getElem hb']) hc
section
variable {P:Program} {w:World} {K:PySem.W.Frag} {mg:Str → Option Value} {base:Heap} {t:Adr}
theorem PlacesAt.change {H H':Hp} {pl lm a:Addr} {vs:List V} {os:List (Option Wm.PM)} {fs:List (List Addr)} {f:List Addr} {m:Wm.PM} {i:Nat} (PA:PlacesAt t H pl lm vs os fs) (hv:vs[i]? = some (.ref a)) (hf:fs[i]? = some f)
  (k:∀ b,b ∉ f → H' b = H b) (M:Mach t.c_Machine H' a m f) (hn:m.n ≤ 32) (hk:m.k ≤ 4) :
  Places t H' pl (os.set i (some m)) (pl :: lm :: fs.flatten) ∧ Moves H H' (pl :: lm :: fs.flatten) (pl :: lm :: fs.flatten):=by
 obtain ⟨dx,hi⟩:=PA.ins
 obtain ⟨nd1,nd2⟩:=List.nodup_cons.1 PA.nd
 obtain ⟨nd3,nd4⟩:=List.nodup_cons.1 nd2
 have hm:∀ b,b ∈ f → b ∈ fs.flatten:=fun b hb=>List.mem_flatten.2 ⟨f,List.mem_of_getElem? hf,hb⟩
 have hpl:pl ∉ f:=fun z=>nd1 (List.mem_cons_of_mem _ (hm _ z))
 have hlm:lm ∉ f:=fun z=>nd3 (hm _ z)
 obtain ⟨q1,q2,q3⟩:=Slots.set (H':=H') PA.slots nd4 (i:=i) (f:=f) (f':=f) (v:=.ref a) (o:=some m) hf (fun b _ hb=>k b hb) ⟨M,hn,hk⟩ (fun b hb=>.inl hb) M.nodup
 have e1:vs.set i (.ref a) = vs:=by
  refine List.ext_getElem? fun j=>?_
  by_cases z:j = i
  ·subst z
   rw [List.getElem?_set_self (List.getElem?_eq_some_iff.mp hv).1,hv]
  ·rw [List.getElem?_set_ne (Ne.symm z)]
 have e2:fs.set i f = fs:=by
  refine List.ext_getElem? fun j=>?_
  by_cases z:j = i
  ·subst z
   rw [List.getElem?_set_self (List.getElem?_eq_some_iff.mp hf).1,hf]
  ·rw [List.getElem?_set_ne (Ne.symm z)]
 rw [e1,e2] at q1
 refine ⟨⟨lm,vs,fs,⟨⟨dx,by rw [k pl hpl]; exact hi⟩,by rw [k lm hlm]; exact PA.lst,by rw [List.length_set]; exact PA.len,q1,PA.nd⟩,rfl⟩,fun b o e hb=>?_,fun b hb=>.inl hb,fun b hb=>?_⟩
 ·rw [k b fun z=>hb (List.mem_cons_of_mem _ (List.mem_cons_of_mem _ (hm b z)))]; exact e
 ·by_cases z:b ∈ f
  ·exact absurd hb (M.none b z)
  ·rw [k b z] at hb; exact hb
noncomputable def takes (os:List (Option Wm.PM)) (sl i x:Int):Bool:=decide (0 ≤ sl ∧ sl < 8) && match os.getD sl.toNat none with
 | none=>false
 | some m=>decide (0 ≤ i ∧ i < (m.n:Int)) && decide (0 ≤ x ∧ x < 2147483647)
theorem takes_none {os:List (Option Wm.PM)} {sl:Int} (h:os.getD sl.toNat none = none) (i x:Int):takes os sl i x = false:=by
 unfold takes
 rw [h]
 exact Bool.and_false _
theorem takes_some {os:List (Option Wm.PM)} {sl:Int} {m:Wm.PM} (h:os.getD sl.toNat none = some m) (i x:Int):takes os sl i x = (decide (0 ≤ sl ∧ sl < 8) && (decide (0 ≤ i ∧ i < (m.n:Int)) && decide (0 ≤ x ∧ x < 2147483647))):=by
 unfold takes
 rw [h]
noncomputable def sp_takes (t:Adr):Sp:=fun vs H Q _=>∃ (pl lm:Addr) (us:List V) (os:List (Option Wm.PM)) (fs:List (List Addr)) (sl i x:Int),vs = [.ref pl,.int sl,.int i,.int x] ∧ PlacesAt t H pl lm us os fs ∧
 Q (if takes os sl i x = true then us.getD sl.toNat .non else .non) H
theorem PlacesAt.slot {H:Hp} {pl lm:Addr} {us:List V} {os:List (Option Wm.PM)} {fs:List (List Addr)} (PA:PlacesAt t H pl lm us os fs) {sl:Int} (h:0 ≤ sl ∧ sl < 8) :
  (us.getD sl.toNat .non = .non ∧ os.getD sl.toNat none = none) ∨ ∃ a m f,us[sl.toNat]? = some (.ref a) ∧ us.getD sl.toNat .non = .ref a ∧ os.getD sl.toNat none = some m ∧ fs[sl.toNat]? = some f ∧ Mach t.c_Machine H a m f ∧ m.n ≤ 32 ∧ m.k ≤ 4:=by
 have hlt:sl.toNat < os.length:=by rw [PA.len]; omega
 obtain ⟨v,f,h1,h2,h3⟩:=PA.slots.get (List.getElem?_eq_getElem hlt)
 have e1:us.getD sl.toNat .non = v:=by rw [List.getD_eq_getElem?_getD,h1]; rfl
 rcases h3.cases with ⟨rfl,e,_⟩ | ⟨a,m,rfl,e,M,hn,hk⟩
 ·exact .inl ⟨e1,by rw [Wm.getD_lt hlt]; exact e⟩
 ·exact .inr ⟨a,m,f,h1,e1,by rw [Wm.getD_lt hlt]; exact e,h2,M,hn,hk⟩
theorem ok_machine_that_takes (T:Txt K mg t):FnOk P w K mg base CX0 3 t.f_machine_that_takes t.d_machine_that_takes ["places","slot","i","x"] (sp_takes t):=by
 refine T.F_machine_that_takes.ok sc_machine_that_takes (fun vs H Q E h=>?_) (fun cdv A outer s H vs Q E hr h=>?_)
 ·obtain ⟨pl,lm,us,os,fs,sl,i,x,rfl,_⟩:=h
  rfl
 ·obtain ⟨pl,lm,us,os,fs,sl,i,x,rfl,PA,k⟩:=h
  obtain ⟨dx,hi⟩:=PA.ins
  refine ⟨_,(pss_cons (ps_set (i:=4) sc_machine_that_takes.nd rfl (Or.inl rfl) (pe_meth (pv 0) T.cl_Places T.me_Places_machine_at (ok_Places_machine_at T) (hr.mono (by decide)) (T.F_Places_machine_at.binds b_Places_machine_at) .nil pass0 (pa_cons (pv 1) pa_nil)))
   (pss_cons (ps_if (PW.pt (pw_or (pt_cmpR op_isN (pv 4) pe_non (nomark _)) (pw_or (pt_not (pt_truth (pe_meth (pv 4) T.cl_Machine T.me_Machine_has_state (ok_Machine_has_state T) (hr.mono (by decide)) (T.F_Machine_has_state.binds b_Machine_has_state) .nil pass0 (pa_cons (pv 2) pa_nil)) (fun _=>rfl))) (pw_or1 (pt_not (pt_truth (pe_call (ok_is_number T) (hr.mono (by decide)) rfl T.m_is_number T.F_is_number.kp (T.F_is_number.binds b_is_number) .nil pass0 (pa_cons (pv 3) pa_nil)) (fun _=>rfl))))))) (pss_one (ps_ret pe_non)) pss_nil)
   (pss_one (ps_ret (pv 4))))),?_⟩
  refine ⟨_,rfl,pl,dx,_,rfl,hi,mF1_no _ (by decide +kernel),_,rfl,pl,lm,us,os,fs,sl,rfl,PA,?_⟩
  have none_way:us.getD sl.toNat .non = .non ∧ os.getD sl.toNat none = none ∨ ¬ (0 ≤ sl ∧ sl < 8) → takes os sl i x = false:=by
   rintro (⟨_,h⟩ | h)
   ·exact takes_none h i x
   ·simp [takes,h]
  by_cases hc:0 ≤ sl ∧ sl < 8
  ·rw [if_pos hc]
   rcases PA.slot hc with ⟨e1,e2⟩ | ⟨a,m,f,h1,e1,e2,h2,M,hn,hk⟩
   ·rw [e1]
    refine ⟨_,rfl,rfl,_,rfl,?_⟩
    refine itY rfl ?_
    rw [none_way (.inl ⟨e1,e2⟩)] at k
    exact k
   ·rw [e1]
    refine ⟨_,rfl,rfl,_,rfl,?_⟩
    refine itN rfl ?_
    obtain ⟨dx',lf,ll,lh,ps,MA,hf⟩:=M
    refine ⟨_,rfl,a,dx',_,rfl,MA.ins,?_,_,rfl,a,m,_,i,rfl,⟨dx',lf,ll,lh,ps,MA,rfl⟩,_,rfl,?_⟩
    ·unfold mF
     rw [look_ne _ _ (by decide +kernel),look_ne _ _ (by decide +kernel),look_ne _ _ (by decide +kernel),look_ne _ _ (by decide +kernel),look_ne _ _ (by decide +kernel)]
     rfl
    by_cases c2:¬ (0 ≤ i ∧ i < (m.n:Int))
    ·refine itY (by simp [c2]) ?_
     have:takes os sl i x = false:=by rw [takes_some e2]; simp [c2]
     rw [this] at k
     exact k
    have c2:0 ≤ i ∧ i < (m.n:Int):=Classical.byContradiction c2
    refine itN (by simp [c2]) ?_
    refine ⟨_,rfl,x,rfl,_,rfl,?_⟩
    by_cases c3:¬ (0 ≤ x ∧ x < 2147483647)
    ·refine itY (by simp [c3]) ?_
     have:takes os sl i x = false:=by rw [takes_some e2]; simp [c3]
     rw [this] at k
     exact k
    have c3:0 ≤ x ∧ x < 2147483647:=Classical.byContradiction c3
    refine itN (by simp [c3]) ?_
    have:takes os sl i x = true:=by rw [takes_some e2]; simp [c2,c3,hc]
    rw [this,if_pos rfl,e1] at k
    exact ⟨_,rfl,k⟩
  ·rw [if_neg hc]
   refine ⟨_,rfl,rfl,_,rfl,?_⟩
   refine itY rfl ?_
   rw [none_way (.inr hc)] at k
   exact k
end
end Wp
namespace Wp
open PySem PySem.Spec PyProof.Rows L2
open PySem.W (Codec)
theorem at_none {os:List (Option Wm.PM)} (h8:os.length = 8) {sl:Int} (h:¬ (0 ≤ sl ∧ sl < 8) ∨ os.getD sl.toNat none = none):Rc64.at_ (abs os) sl = none:=by
 rw [abs_at os h8]
 rcases h with h | h
 ·rw [if_neg h]
 ·rw [h]
  by_cases hc:0 ≤ sl ∧ sl < 8
  ·rw [if_pos hc]; rfl
  ·rw [if_neg hc]
theorem at_some {os:List (Option Wm.PM)} (h8:os.length = 8) {sl:Int} (hc:0 ≤ sl ∧ sl < 8) {m:Wm.PM} (h:os.getD sl.toNat none = some m):Rc64.at_ (abs os) sl = some m.mach:=by
 rw [abs_at os h8,if_pos hc,h]
 rfl
theorem state_iff {m:Wm.PM} {i:Int}:Rc64.isState m.mach i = true ↔ 0 ≤ i ∧ i < (m.n:Int):=by
 unfold Rc64.isState
 exact decide_eq_true_iff
theorem letter_iff {m:Wm.PM} {i:Int}:Rc64.isLetter m.mach i = true ↔ 0 ≤ i ∧ i < (m.k:Int):=by
 unfold Rc64.isLetter
 exact decide_eq_true_iff
theorem bool_false {b:Bool} (h:¬ b = true):b = false:=by
 cases b
 ·rfl
 ·exact absurd rfl h
theorem takes_false {os:List (Option Wm.PM)} (h8:os.length = 8) {sl i x:Int} (hx:0 ≤ x) (h:takes os sl i x = false) :
  Rc64.at_ (abs os) sl = none ∨ ∃ m:Wm.PM,Rc64.at_ (abs os) sl = some m.mach ∧ (Rc64.isState m.mach i = false ∨ Rc64.P ≤ x.toNat):=by
 by_cases hc:0 ≤ sl ∧ sl < 8
 ·cases e:os.getD sl.toNat none with
  | none=>exact .inl (at_none h8 (.inr e))
  | some m =>
   refine .inr ⟨m,at_some h8 hc e,?_⟩
   rw [takes_some e] at h
   by_cases c1:0 ≤ i ∧ i < (m.n:Int)
   ·right
    simp [hc,c1] at h
    show 2147483647 ≤ x.toNat
    omega
   ·left
    exact bool_false fun z=>c1 (state_iff.1 z)
 ·exact .inl (at_none h8 (.inl hc))
theorem takes_true {os:List (Option Wm.PM)} (h8:os.length = 8) {sl i x:Int} (h:takes os sl i x = true) :
  (0 ≤ sl ∧ sl < 8) ∧ ∃ m:Wm.PM,os.getD sl.toNat none = some m ∧ (0 ≤ i ∧ i < (m.n:Int)) ∧ (0 ≤ x ∧ x < 2147483647) ∧ Rc64.at_ (abs os) sl = some m.mach ∧ ¬ (Rc64.isState m.mach i = false ∨ Rc64.P ≤ x.toNat):=by
 cases e:os.getD sl.toNat none with
 | none=>rw [takes_none e] at h; cases h
 | some m =>
  rw [takes_some e] at h
  simp only [Bool.and_eq_true,decide_eq_true_eq] at h
  obtain ⟨hc,c1,c2⟩:=h
  refine ⟨hc,m,rfl,c1,c2,at_some h8 hc e,?_⟩
  rintro (z | z)
  ·rw [state_iff.2 c1] at z; cases z
  ·have:2147483647 ≤ x.toNat:=z
   omega
section
variable {P:Program} {w:World} {K:PySem.W.Frag} {mg:Str → Option Value} {base:Heap} {t:Adr}
theorem ok_first (T:Txt K mg t):FnOk P w K mg base CX0 5 t.f_first t.d_first ["places","reader"] (sp_call K t 2):=by
 refine T.F_first.ok sc_first (fun vs H Q E h=>?_) (fun cdv A outer s H vs Q E hr h=>?_)
 ·obtain ⟨pl,rd,a,ns,r,tl,pos,os,S,c,q,rfl,_⟩:=h
  rfl
 ·obtain ⟨pl,rd,a,ns,r,tl,pos,os,S,c,q,rfl,hP,hR,hrS,er,rr,ha,k⟩:=h
  obtain ⟨sl,i,x,rfl,rfl,rfl⟩:=rr.i2
  clear rr
  obtain ⟨dr,hri⟩:=hR.ins
  have hx0:0 ≤ x:=Wm.asked3 ha
  refine ⟨_,(pss_cons (ps_set (i:=2) sc_first.nd rfl (Or.inl rfl) (pe_meth0 (pv 1) T.cl_Reader T.me_Reader_take (ok_Reader_take T) (hr.mono (by decide)) (T.F_Reader_take.binds b_Reader_take) .nil pass0 ))
   (pss_cons (ps_set (i:=3) sc_first.nd rfl (Or.inl rfl) (pe_meth0 (pv 1) T.cl_Reader T.me_Reader_take (ok_Reader_take T) (hr.mono (by decide)) (T.F_Reader_take.binds b_Reader_take) .nil pass0 ))
   (pss_cons (ps_set (i:=4) sc_first.nd rfl (Or.inl rfl) (pe_meth0 (pv 1) T.cl_Reader T.me_Reader_take (ok_Reader_take T) (hr.mono (by decide)) (T.F_Reader_take.binds b_Reader_take) .nil pass0 ))
   (pss_cons (ps_set (i:=5) sc_first.nd rfl (Or.inl rfl) (pe_call (ok_machine_that_takes T) (hr.mono (by decide)) rfl T.m_machine_that_takes T.F_machine_that_takes.kp (T.F_machine_that_takes.binds b_machine_that_takes) .nil pass0 (pa_cons (pv 0) (pa_cons (pv 2) (pa_cons (pv 3) (pa_cons (pv 4) pa_nil))))))
   (pss_cons (ps_if (pt_cmpR op_isN (pv 5) pe_non (nomark _)) (pss_one (ps_ret (pe_lst (pa_cons (pe_glob (v:=.int (-1)) rfl T.m_REFUSED ⟨_,rfl⟩) pa_nil)))) pss_nil)
   (pss_cons (ps_asg (pv 4) (pg_sub (pe_fld (pv 5) rfl) (pv 3) set_list))
   (pss_one (ps_ret (pe_lst (pa_cons (pe_glob (v:=.int 0) rfl T.m_DONE ⟨_,rfl⟩) pa_nil)))))))))),?_⟩
  refine take_ok rfl hR er fun H1 R1 k1 e1=>?_
  refine take_ok rfl R1 e1 fun H2 R2 k2 e2=>?_
  refine take_ok rfl R2 e2 fun H3 R3 k3 e3=>?_
  have k03:∀ b,b ≠ rd → H3 b = H b:=fun b hb=>by rw [k3 b hb,k2 b hb,k1 b hb]
  have hrn:H rd ≠ none:=by rw [hri]; intro z; cases z
  have D0:Done K t H H3 pl rd a ns tl os os S S _:=Done.same hP hrS R3 hrn e3 k03
  obtain ⟨lm,us,fs,PA,hS⟩:=D0.plc
  have h8:=PA.len
  refine ⟨_,rfl,_,rfl,_,rfl,_,rfl,pl,lm,us,os,fs,sl,i,x,rfl,PA,?_⟩
  cases ht:takes os sl i x with
  | false =>
   refine ⟨_,rfl,rfl,_,rfl,?_⟩
   refine itY rfl ?_
   refine ⟨by show 1 ≤ sizeLine; decide,fun l hl=>?_⟩
   obtain ⟨d2,hl0,hlS⟩:=D0.list (o:=.lst [.int (-1)]) hl
   refine k _ l os S _ Rc64.refused d2 ?_ hl0 hlS upd_same
   show Rc64.does (abs os) (.first sl i x.toNat) = _
   unfold Rc64.does
   simp only
   rcases takes_false h8 hx0 ht with e | ⟨m,e,hb⟩
   ·rw [e]
   ·rw [e]
    simp only
    rw [if_pos hb]
  | true =>
   obtain ⟨hc,m,em,hi,hx,eat,hgood⟩:=takes_true h8 ht
   rcases PA.slot hc with ⟨_,e2⟩ | ⟨am,m',f,hu,eu,em',hf,M,hn,hk⟩
   ·rw [em] at e2; cases e2
   rw [em] at em'
   obtain rfl:=Option.some.inj em'
   rw [if_pos rfl,eu]
   refine ⟨_,rfl,rfl,_,rfl,?_⟩
   refine itN rfl ?_
   obtain ⟨dm,lf,ll,lh,ps,MA,hfS⟩:=M
   have hil:i.toNat < m.f.length:=by rw [MA.ok.fl]; omega
   refine ⟨_,rfl,_,rfl,am,_,dm,_,_,rfl,MA.ins,T.cl_Machine,T.na_Machine_firsts,mF_firsts ..,_,rfl,lf,_,i,i.toNat,rfl,rfl,MA.fst,?_,?_⟩
   ·unfold ixN
    have:i.toNat < (nums m.f).length:=by rw [List.length_map]; exact hil
    rw [if_pos hi.1,if_pos (by omega)]
   have ex:V.int x = V.int ((x.toNat:Nat):Int):=by rw [Int.toNat_of_nonneg hx0]
   rw [ex,nums_set]
   have MA':=MA.setF i.toNat x.toNat (by show x.toNat < 2147483647; omega)
   have hlf:lf ∈ f:=by rw [hfS]; simp
   obtain ⟨P5,mv5⟩:=PA.change (H':=upd H3 lf (.lst (nums (m.f.set i.toNat x.toNat)))) hu hf (fun b hb=>upd_ne fun z=>hb (by rw [z]; exact hlf)) ⟨dm,lf,ll,lh,ps,MA',hfS⟩ hn hk
   ·rw [← hS] at P5 mv5
    have D5:=D0.next P5 mv5
    refine ⟨by show 1 ≤ sizeLine; decide,fun l hl=>?_⟩
    obtain ⟨d6,hl0,hlS⟩:=D5.list (o:=.lst [.int 0]) hl
    refine k _ l _ S _ { value:=0 } d6 ?_ hl0 hlS upd_same
    show Rc64.does (abs os) (.first sl i x.toNat) = _
    unfold Rc64.does
    simp only
    rw [eat]
    simp only
    rw [if_neg hgood]
    exact congrArg (fun z=>(z,({ value:=0 }:Rc64.Ans))) (abs_put os sl { m with f:=m.f.set i.toNat x.toNat })
theorem ok_last (T:Txt K mg t):FnOk P w K mg base CX0 5 t.f_last t.d_last ["places","reader"] (sp_call K t 3):=by
 refine T.F_last.ok sc_last (fun vs H Q E h=>?_) (fun cdv A outer s H vs Q E hr h=>?_)
 ·obtain ⟨pl,rd,a,ns,r,tl,pos,os,S,c,q,rfl,_⟩:=h
  rfl
 ·obtain ⟨pl,rd,a,ns,r,tl,pos,os,S,c,q,rfl,hP,hR,hrS,er,rr,ha,k⟩:=h
  obtain ⟨sl,i,x,rfl,rfl,rfl⟩:=rr.i3
  clear rr
  obtain ⟨dr,hri⟩:=hR.ins
  have hx0:0 ≤ x:=Wm.asked3 ha
  refine ⟨_,(pss_cons (ps_set (i:=2) sc_last.nd rfl (Or.inl rfl) (pe_meth0 (pv 1) T.cl_Reader T.me_Reader_take (ok_Reader_take T) (hr.mono (by decide)) (T.F_Reader_take.binds b_Reader_take) .nil pass0 ))
   (pss_cons (ps_set (i:=3) sc_last.nd rfl (Or.inl rfl) (pe_meth0 (pv 1) T.cl_Reader T.me_Reader_take (ok_Reader_take T) (hr.mono (by decide)) (T.F_Reader_take.binds b_Reader_take) .nil pass0 ))
   (pss_cons (ps_set (i:=4) sc_last.nd rfl (Or.inl rfl) (pe_meth0 (pv 1) T.cl_Reader T.me_Reader_take (ok_Reader_take T) (hr.mono (by decide)) (T.F_Reader_take.binds b_Reader_take) .nil pass0 ))
   (pss_cons (ps_set (i:=5) sc_last.nd rfl (Or.inl rfl) (pe_call (ok_machine_that_takes T) (hr.mono (by decide)) rfl T.m_machine_that_takes T.F_machine_that_takes.kp (T.F_machine_that_takes.binds b_machine_that_takes) .nil pass0 (pa_cons (pv 0) (pa_cons (pv 2) (pa_cons (pv 3) (pa_cons (pv 4) pa_nil))))))
   (pss_cons (ps_if (pt_cmpR op_isN (pv 5) pe_non (nomark _)) (pss_one (ps_ret (pe_lst (pa_cons (pe_glob (v:=.int (-1)) rfl T.m_REFUSED ⟨_,rfl⟩) pa_nil)))) pss_nil)
   (pss_cons (ps_asg (pv 4) (pg_sub (pe_fld (pv 5) rfl) (pv 3) set_list))
   (pss_one (ps_ret (pe_lst (pa_cons (pe_glob (v:=.int 0) rfl T.m_DONE ⟨_,rfl⟩) pa_nil)))))))))),?_⟩
  refine take_ok rfl hR er fun H1 R1 k1 e1=>?_
  refine take_ok rfl R1 e1 fun H2 R2 k2 e2=>?_
  refine take_ok rfl R2 e2 fun H3 R3 k3 e3=>?_
  have k03:∀ b,b ≠ rd → H3 b = H b:=fun b hb=>by rw [k3 b hb,k2 b hb,k1 b hb]
  have hrn:H rd ≠ none:=by rw [hri]; intro z; cases z
  have D0:Done K t H H3 pl rd a ns tl os os S S _:=Done.same hP hrS R3 hrn e3 k03
  obtain ⟨lm,us,fs,PA,hS⟩:=D0.plc
  have h8:=PA.len
  refine ⟨_,rfl,_,rfl,_,rfl,_,rfl,pl,lm,us,os,fs,sl,i,x,rfl,PA,?_⟩
  cases ht:takes os sl i x with
  | false =>
   refine ⟨_,rfl,rfl,_,rfl,?_⟩
   refine itY rfl ?_
   refine ⟨by show 1 ≤ sizeLine; decide,fun l hl=>?_⟩
   obtain ⟨d2,hl0,hlS⟩:=D0.list (o:=.lst [.int (-1)]) hl
   refine k _ l os S _ Rc64.refused d2 ?_ hl0 hlS upd_same
   show Rc64.does (abs os) (.last sl i x.toNat) = _
   unfold Rc64.does
   simp only
   rcases takes_false h8 hx0 ht with e | ⟨m,e,hb⟩
   ·rw [e]
   ·rw [e]
    simp only
    rw [if_pos hb]
  | true =>
   obtain ⟨hc,m,em,hi,hx,eat,hgood⟩:=takes_true h8 ht
   rcases PA.slot hc with ⟨_,e2⟩ | ⟨am,m',f,hu,eu,em',hf,M,hn,hk⟩
   ·rw [em] at e2; cases e2
   rw [em] at em'
   obtain rfl:=Option.some.inj em'
   rw [if_pos rfl,eu]
   refine ⟨_,rfl,rfl,_,rfl,?_⟩
   refine itN rfl ?_
   obtain ⟨dm,lf,ll,lh,ps,MA,hfS⟩:=M
   have hil:i.toNat < m.l.length:=by rw [MA.ok.ll]; omega
   refine ⟨_,rfl,_,rfl,am,_,dm,_,_,rfl,MA.ins,T.cl_Machine,T.na_Machine_lasts,mF_lasts ..,_,rfl,ll,_,i,i.toNat,rfl,rfl,MA.lst,?_,?_⟩
   ·unfold ixN
    have:i.toNat < (nums m.l).length:=by rw [List.length_map]; exact hil
    rw [if_pos hi.1,if_pos (by omega)]
   have ex:V.int x = V.int ((x.toNat:Nat):Int):=by rw [Int.toNat_of_nonneg hx0]
   rw [ex,nums_set]
   have MA':=MA.setL i.toNat x.toNat (by show x.toNat < 2147483647; omega)
   have hll:ll ∈ f:=by rw [hfS]; simp
   obtain ⟨P5,mv5⟩:=PA.change (H':=upd H3 ll (.lst (nums (m.l.set i.toNat x.toNat)))) hu hf (fun b hb=>upd_ne fun z=>hb (by rw [z]; exact hll)) ⟨dm,lf,ll,lh,ps,MA',hfS⟩ hn hk
   ·rw [← hS] at P5 mv5
    have D5:=D0.next P5 mv5
    refine ⟨by show 1 ≤ sizeLine; decide,fun l hl=>?_⟩
    obtain ⟨d6,hl0,hlS⟩:=D5.list (o:=.lst [.int 0]) hl
    refine k _ l _ S _ { value:=0 } d6 ?_ hl0 hlS upd_same
    show Rc64.does (abs os) (.last sl i x.toNat) = _
    unfold Rc64.does
    simp only
    rw [eat]
    simp only
    rw [if_neg hgood]
    exact congrArg (fun z=>(z,({ value:=0 }:Rc64.Ans))) (abs_put os sl { m with l:=m.l.set i.toNat x.toNat })
theorem ok_hand (T:Txt K mg t):FnOk P w K mg base CX0 5 t.f_hand t.d_hand ["places","reader"] (sp_call K t 4):=by
 refine T.F_hand.ok sc_hand (fun vs H Q E h=>?_) (fun cdv A outer s H vs Q E hr h=>?_)
 ·obtain ⟨pl,rd,a,ns,r,tl,pos,os,S,c,q,rfl,_⟩:=h
  rfl
 ·obtain ⟨pl,rd,a,ns,r,tl,pos,os,S,c,q,rfl,hP,hR,hrS,er,rr,ha,k⟩:=h
  obtain ⟨sl,la,i,j,x,rfl,rfl,rfl⟩:=rr.i4
  clear rr
  obtain ⟨dr,hri⟩:=hR.ins
  have hx0:0 ≤ x:=Wm.asked5 ha
  refine ⟨_,(pss_cons (ps_set (i:=2) sc_hand.nd rfl (Or.inl rfl) (pe_meth0 (pv 1) T.cl_Reader T.me_Reader_take (ok_Reader_take T) (hr.mono (by decide)) (T.F_Reader_take.binds b_Reader_take) .nil pass0 ))
   (pss_cons (ps_set (i:=3) sc_hand.nd rfl (Or.inl rfl) (pe_meth0 (pv 1) T.cl_Reader T.me_Reader_take (ok_Reader_take T) (hr.mono (by decide)) (T.F_Reader_take.binds b_Reader_take) .nil pass0 ))
   (pss_cons (ps_set (i:=4) sc_hand.nd rfl (Or.inl rfl) (pe_meth0 (pv 1) T.cl_Reader T.me_Reader_take (ok_Reader_take T) (hr.mono (by decide)) (T.F_Reader_take.binds b_Reader_take) .nil pass0 ))
   (pss_cons (ps_set (i:=5) sc_hand.nd rfl (Or.inl rfl) (pe_meth0 (pv 1) T.cl_Reader T.me_Reader_take (ok_Reader_take T) (hr.mono (by decide)) (T.F_Reader_take.binds b_Reader_take) .nil pass0 ))
   (pss_cons (ps_set (i:=6) sc_hand.nd rfl (Or.inl rfl) (pe_meth0 (pv 1) T.cl_Reader T.me_Reader_take (ok_Reader_take T) (hr.mono (by decide)) (T.F_Reader_take.binds b_Reader_take) .nil pass0 ))
   (pss_cons (ps_set (i:=7) sc_hand.nd rfl (Or.inl rfl) (pe_call (ok_machine_that_takes T) (hr.mono (by decide)) rfl T.m_machine_that_takes T.F_machine_that_takes.kp (T.F_machine_that_takes.binds b_machine_that_takes) .nil pass0 (pa_cons (pv 0) (pa_cons (pv 2) (pa_cons (pv 4) (pa_cons (pv 6) pa_nil))))))
   (pss_cons (ps_if (PW.pt (pw_or (pt_cmpR op_isN (pv 7) pe_non (nomark _)) (pw_or (pt_not (pt_truth (pe_meth (pv 7) T.cl_Machine T.me_Machine_has_state (ok_Machine_has_state T) (hr.mono (by decide)) (T.F_Machine_has_state.binds b_Machine_has_state) .nil pass0 (pa_cons (pv 5) pa_nil)) (fun _=>rfl))) (pw_or1 (pt_not (pt_truth (pe_meth (pv 7) T.cl_Machine T.me_Machine_has_letter (ok_Machine_has_letter T) (hr.mono (by decide)) (T.F_Machine_has_letter.binds b_Machine_has_letter) .nil pass0 (pa_cons (pv 3) pa_nil)) (fun _=>rfl))))))) (pss_one (ps_ret (pe_lst (pa_cons (pe_glob (v:=.int (-1)) rfl T.m_REFUSED ⟨_,rfl⟩) pa_nil)))) pss_nil)
   (pss_cons (ps_asg (pv 6) (pg_sub (pe_ix ix_list (pe_ix ix_list (pe_fld (pv 7) rfl) (pv 3) (fun _ _=>rfl)) (pv 4) (fun _ _=>rfl)) (pv 5) set_list))
   (pss_one (ps_ret (pe_lst (pa_cons (pe_glob (v:=.int 0) rfl T.m_DONE ⟨_,rfl⟩) pa_nil)))))))))))),?_⟩
  refine take_ok rfl hR er fun H1 R1 k1 e1=>?_
  refine take_ok rfl R1 e1 fun H2 R2 k2 e2=>?_
  refine take_ok rfl R2 e2 fun H3 R3 k3 e3=>?_
  refine take_ok rfl R3 e3 fun H4 R4 k4 e4=>?_
  refine take_ok rfl R4 e4 fun H5 R5 k5 e5=>?_
  have k05:∀ b,b ≠ rd → H5 b = H b:=fun b hb=>by rw [k5 b hb,k4 b hb,k3 b hb,k2 b hb,k1 b hb]
  have hrn:H rd ≠ none:=by rw [hri]; intro z; cases z
  have D0:Done K t H H5 pl rd a ns tl os os S S _:=Done.same hP hrS R5 hrn e5 k05
  obtain ⟨lm,us,fs,PA,hS⟩:=D0.plc
  have h8:=PA.len
  have ref:(Rc64.at_ (abs os) sl = none ∨ ∃ m:Wm.PM,Rc64.at_ (abs os) sl = some m.mach ∧ (Rc64.isLetter m.mach la = false ∨ Rc64.isState m.mach i = false ∨ Rc64.isState m.mach j = false ∨ Rc64.P ≤ x.toNat)) → ∀ l,H5 l = none → Q (.ref l) (upd H5 l (.lst [.int (-1)])):=fun hc l hl=>by
   obtain ⟨d2,hl0,hlS⟩:=D0.list (o:=.lst [.int (-1)]) hl
   refine k _ l os S _ Rc64.refused d2 ?_ hl0 hlS upd_same
   show Rc64.does (abs os) (.hand sl la i j x.toNat) = _
   unfold Rc64.does
   simp only
   rcases hc with e | ⟨m,e,hb⟩
   ·rw [e]
   ·rw [e]
    simp only
    rw [if_pos hb]
  refine ⟨_,rfl,_,rfl,_,rfl,_,rfl,pl,lm,us,os,fs,sl,i,x,rfl,PA,?_⟩
  cases ht:takes os sl i x with
  | false =>
   refine ⟨_,rfl,rfl,_,rfl,?_⟩
   refine itY rfl ?_
   refine itY rfl ?_
   refine ⟨by show 1 ≤ sizeLine; decide,ref ?_⟩
   rcases takes_false h8 hx0 ht with e | ⟨m,e,hb⟩
   ·exact .inl e
   ·refine .inr ⟨m,e,?_⟩
    rcases hb with z | z
    ·exact .inr (.inl z)
    ·exact .inr (.inr (.inr z))
  | true =>
   obtain ⟨hc,m,em,hi,hx,eat,hgood⟩:=takes_true h8 ht
   rcases PA.slot hc with ⟨_,e2⟩ | ⟨am,m',f,hu,eu,em',hf,M,hn,hk⟩
   ·rw [em] at e2; cases e2
   rw [em] at em'
   obtain rfl:=Option.some.inj em'
   rw [if_pos rfl,eu]
   refine ⟨_,rfl,rfl,_,rfl,?_⟩
   refine itN rfl ?_
   obtain ⟨dm,lf,ll,lh,ps,MA,hfS⟩:=M
   have no1:(mF m.n m.k lf ll lh).lookup ("has_state":Str) = none:=by
    unfold mF
    rw [look_ne _ _ (by decide +kernel),look_ne _ _ (by decide +kernel),look_ne _ _ (by decide +kernel),look_ne _ _ (by decide +kernel),look_ne _ _ (by decide +kernel)]
    rfl
   have no2:(mF m.n m.k lf ll lh).lookup ("has_letter":Str) = none:=by
    unfold mF
    rw [look_ne _ _ (by decide +kernel),look_ne _ _ (by decide +kernel),look_ne _ _ (by decide +kernel),look_ne _ _ (by decide +kernel),look_ne _ _ (by decide +kernel)]
    rfl
   refine ⟨_,rfl,am,dm,_,rfl,MA.ins,no1,_,rfl,am,m,_,j,rfl,⟨dm,lf,ll,lh,ps,MA,rfl⟩,_,rfl,?_⟩
   by_cases c1:¬ (0 ≤ j ∧ j < (m.n:Int))
   ·refine itY (by simp [c1]) ?_
    refine itY rfl ?_
    exact ⟨by show 1 ≤ sizeLine; decide,ref (.inr ⟨m,eat,.inr (.inr (.inl (bool_false fun z=>c1 (state_iff.1 z))))⟩)⟩
   have c1:0 ≤ j ∧ j < (m.n:Int):=Classical.byContradiction c1
   refine itN (by simp [c1]) ?_
   refine ⟨_,rfl,am,dm,_,rfl,MA.ins,no2,_,rfl,am,m,_,la,rfl,⟨dm,lf,ll,lh,ps,MA,rfl⟩,_,rfl,?_⟩
   by_cases c2:¬ (0 ≤ la ∧ la < (m.k:Int))
   ·refine itY (by simp [c2]) ?_
    exact ⟨by show 1 ≤ sizeLine; decide,ref (.inr ⟨m,eat,.inl (bool_false fun z=>c2 (letter_iff.1 z))⟩)⟩
   have c2:0 ≤ la ∧ la < (m.k:Int):=Classical.byContradiction c2
   refine itN (by simp [c2]) ?_
   have hla:la.toNat < m.h.length:=by rw [MA.ok.hl]; omega
   have hqm:m.h[la.toNat] ∈ m.h:=List.getElem_mem hla
   have hil:i.toNat < m.h[la.toNat].length:=by rw [MA.ok.ql _ hqm]; omega
   obtain ⟨p,hp,hpl,hpr⟩:=MA.sqs.get (List.getElem?_eq_getElem hla)
   obtain ⟨cr,hcr,hcv⟩:=hpr.get (List.getElem?_eq_getElem hil)
   have hjl:j.toNat < m.h[la.toNat][i.toNat].length:=by rw [MA.ok.rl _ hqm _ (List.getElem_mem hil)]; omega
   refine ⟨_,rfl,_,rfl,am,_,dm,_,_,rfl,MA.ins,T.cl_Machine,T.na_Machine_hands,mF_hands ..,_,rfl,lh,_,_,_,rfl,rfl,SqL.of MA.hnd,at_of (j:=la.toNat) (v:=V.ref p.1) (by omega) (by rw [List.getElem?_map,hp]; rfl),
    _,rfl,p.1,_,_,_,rfl,rfl,SqL.of hpl,at_of (j:=i.toNat) (v:=V.ref cr) (by omega) (by rw [List.getElem?_map,hcr]; rfl),_,rfl,cr,_,j,j.toNat,rfl,rfl,hcv,?_,?_⟩
   ·unfold ixN
    have:j.toNat < (nums m.h[la.toNat][i.toNat]).length:=by rw [List.length_map]; exact hjl
    rw [if_pos c1.1,if_pos (by omega)]
   have ex:V.int x = V.int ((x.toNat:Nat):Int):=by rw [Int.toNat_of_nonneg hx0]
   have eg:m.h[la.toNat][i.toNat] = (m.h.getD la.toNat []).getD i.toNat []:=by rw [Wm.getD_lt hla,Wm.getD_lt hil]
   rw [ex,nums_set,eg]
   have MA':=MA.setH (b:=la.toNat) (i:=i.toNat) (j:=j.toNat) (x:=x.toNat) (by omega) (by omega) (by show x.toNat < 2147483647; omega) hp hcr
   have hcf:cr ∈ f:=by
    rw [hfS]
    exact List.mem_cons_of_mem _ (List.mem_cons_of_mem _ (List.mem_cons_of_mem _ (List.mem_cons_of_mem _ (mem_sqF hp (List.mem_cons_of_mem _ (List.mem_of_getElem? hcr))))))
   obtain ⟨P5,mv5⟩:=PA.change (H':=upd H5 cr (.lst (nums (((m.h.getD la.toNat []).getD i.toNat []).set j.toNat x.toNat)))) hu hf (fun b hb=>upd_ne fun z=>hb (by rw [z]; exact hcf)) ⟨dm,lf,ll,lh,ps,MA',hfS⟩ hn hk
   rw [← hS] at P5 mv5
   have D5:=D0.next P5 mv5
   refine ⟨by show 1 ≤ sizeLine; decide,fun l hl=>?_⟩
   obtain ⟨d6,hl0,hlS⟩:=D5.list (o:=.lst [.int 0]) hl
   refine k _ l _ S _ { value:=0 } d6 ?_ hl0 hlS upd_same
   show Rc64.does (abs os) (.hand sl la i j x.toNat) = _
   unfold Rc64.does
   simp only
   rw [eat]
   simp only
   rw [if_neg]
   ·have e3:=Wm.set3_flat MA.ok (a:=la.toNat) (i:=i.toNat) (j:=j.toNat) (x:=x.toNat) (by omega) (by omega) (by omega)
    rw [← abs_put]
    refine congrArg (fun z=>(z,({ value:=0 }:Rc64.Ans))) (congrArg (Rc64.put (abs os) sl) ?_)
    show ({ m.mach with hands:=_ }:Rc64.Machine) = ⟨m.n,m.k,m.f,m.l,(Wm.set3 m.h la.toNat i.toNat j.toNat x.toNat).flatten.flatten⟩
    rw [e3]
    rfl
   ·rintro (z | z | z | z)
    ·rw [letter_iff.2 c2] at z; cases z
    ·exact hgood (.inl z)
    ·rw [state_iff.2 c1] at z; cases z
    ·exact hgood (.inr z)
end
end Wp
namespace Wp
open PySem PySem.Spec PyProof.Rows L2
noncomputable def atP (os:List (Option Wm.PM)) (i:Int):Option Wm.PM:=if 0 ≤ i ∧ i < 8 then os.getD i.toNat none else none
theorem at_atP {os:List (Option Wm.PM)} (h8:os.length = 8) (i:Int):Rc64.at_ (abs os) i = (atP os i).map Wm.PM.mach:=by
 rw [abs_at os h8]
 unfold atP
 by_cases h:0 ≤ i ∧ i < 8
 ·rw [if_pos h,if_pos h]
 ·rw [if_neg h,if_neg h]; rfl
theorem slot_yes {t:Int} (h:0 ≤ t ∧ t < 8):¬ Rc64.isSlot t = false:=fun z=>by rw [Wm.slot_iff.2 h] at z; cases z
noncomputable def apartAns (r:Int):Option Wm.Wd → Rc64.Ans
 | none=>{ value:=-3 }
 | some w=>if Rc64.roomOf r < w.length then { value:=-2 } else { value:=(w.length:Nat),numbers:=w }
section
variable {os:List (Option Wm.PM)} (h8:os.length = 8)
include h8
theorem do_worth_none {sl n:Int} {w:List Nat} (h:atP os sl = none):Wm.DoesR (abs os) (.worth sl w n) (abs os) Rc64.refused:=by
 show Rc64.does (abs os) (.worth sl w n) = _
 unfold Rc64.does
 simp only
 rw [at_atP h8,h]
 rfl
theorem do_worth_bad {sl n:Int} {w:List Nat} {m:Wm.PM} (h:atP os sl = some m) (hw:¬ Wm.lets m.k w):Wm.DoesR (abs os) (.worth sl w n) (abs os) Rc64.refused:=by
 show Rc64.does (abs os) (.worth sl w n) = _
 unfold Rc64.does
 simp only
 rw [at_atP h8,h]
 simp only [Option.map_some]
 rw [if_pos]
 refine .inr (.inr (bool_false fun z=>hw fun a ha=>?_))
 exact of_decide_eq_true (List.all_eq_true.1 z a ha)
theorem do_worth {sl n:Int} {w:List Nat} {m:Wm.PM} (h:atP os sl = some m) (ok:m.Ok) (hw:Wm.lets m.k w) (h0:0 ≤ n) (h1:n ≤ 65536):Wm.DoesR (abs os) (.worth sl w n) (abs os) { value:=(Rc64.worth m.mach w:Nat) }:=by
 show Rc64.does (abs os) (.worth sl w n) = _
 unfold Rc64.does
 simp only
 rw [at_atP h8,h]
 simp only [Option.map_some]
 rw [if_neg,Wm.worthBy_eq ok.rt hw]
 rintro (z | z | z)
 ·omega
 ·simp only [Rc64.LONG] at z; omega
 ·have:(w.all fun a=>decide (a < m.mach.k)) = true:=List.all_eq_true.2 fun a ha=>decide_eq_true (hw a ha)
  rw [this] at z; cases z
theorem do_make_ref {kd i j sl:Int} (h:¬ (0 ≤ sl ∧ sl < 8) ∨ atP os i = none ∨ atP os j = none ∨ ∃ m o,atP os i = some m ∧ atP os j = some o ∧ (m.k ≠ o.k ∨ ¬ (0 ≤ kd ∧ kd ≤ 3))):Wm.DoesR (abs os) (.make kd i j sl) (abs os) Rc64.refused:=by
 show Rc64.does (abs os) (.make kd i j sl) = _
 unfold Rc64.does
 simp only
 by_cases hs:Rc64.isSlot sl = false
 ·rw [if_pos hs]
 rw [if_neg hs]
 have hs':0 ≤ sl ∧ sl < 8:=Wm.slot_iff.1 (by cases z:Rc64.isSlot sl with | true=>rfl | false=>exact absurd z hs)
 rw [at_atP h8,at_atP h8]
 rcases h with h | h | h | ⟨m,o,h1,h2,h⟩
 ·exact absurd hs' h
 ·rw [h]; rfl
 ·rw [h]
  cases atP os i <;> rfl
 ·rw [h1,h2]
  simp only [Option.map_some]
  have e:Rc64.making kd m.mach o.mach = none:=by
   unfold Rc64.making
   by_cases hk:m.mach.k ≠ o.mach.k
   ·rw [if_pos hk]
   ·rw [if_neg hk]
    rcases h with h | h
    ·exact absurd h hk
    ·rw [if_neg (by omega),if_neg (by omega),if_neg (by omega),if_neg (by omega)]
  rw [e]
noncomputable def kindOf (kd:Int) (m o:Rc64.Machine):Rc64.Machine:=if kd = 0 then Rc64.plus m o else if kd = 1 then Rc64.times m o else if kd = 2 then Rc64.behind m o else Rc64.turned m
omit h8 in
theorem making_kind {kd:Int} {m o:Rc64.Machine} (hk:m.k = o.k) (h:0 ≤ kd ∧ kd ≤ 3):Rc64.making kd m o = some (kindOf kd m o):=by
 unfold Rc64.making kindOf
 rw [if_neg (fun z=>z hk)]
 by_cases h0:kd = 0
 ·rw [if_pos h0,if_pos h0]
 by_cases h1:kd = 1
 ·rw [if_neg h0,if_neg h0,if_pos h1,if_pos h1]
 by_cases h2:kd = 2
 ·rw [if_neg h0,if_neg h0,if_neg h1,if_neg h1,if_pos h2,if_pos h2]
 ·rw [if_neg h0,if_neg h0,if_neg h1,if_neg h1,if_neg h2,if_neg h2,if_pos (by omega)]
theorem do_make_big {kd i j sl:Int} {m o:Wm.PM} (hs:0 ≤ sl ∧ sl < 8) (h1:atP os i = some m) (h2:atP os j = some o) (hk:m.k = o.k) (hd:0 ≤ kd ∧ kd ≤ 3) (hb:32 < (kindOf kd m.mach o.mach).n):Wm.DoesR (abs os) (.make kd i j sl) (abs os) { value:=-2 }:=by
 show Rc64.does (abs os) (.make kd i j sl) = _
 unfold Rc64.does
 simp only
 rw [if_neg (slot_yes hs),at_atP h8,at_atP h8,h1,h2]
 simp only [Option.map_some]
 rw [making_kind (m:=m.mach) (o:=o.mach) hk hd]
 simp only
 rw [if_pos (show Rc64.STATES < _ from hb)]
theorem do_make {kd i j sl:Int} {m o q:Wm.PM} (hs:0 ≤ sl ∧ sl < 8) (h1:atP os i = some m) (h2:atP os j = some o) (hk:m.k = o.k) (hd:0 ≤ kd ∧ kd ≤ 3) (hq:q.mach = kindOf kd m.mach o.mach) (hb:q.n ≤ 32) :
  Wm.DoesR (abs os) (.make kd i j sl) (abs (os.set sl.toNat (some q))) { value:=(q.n:Nat) }:=by
 show Rc64.does (abs os) (.make kd i j sl) = _
 unfold Rc64.does
 simp only
 rw [if_neg (slot_yes hs),at_atP h8,at_atP h8,h1,h2]
 simp only [Option.map_some]
 rw [making_kind (m:=m.mach) (o:=o.mach) hk hd]
 simp only
 rw [← hq,if_neg (by show ¬ 32 < q.n; omega),abs_put]
 rfl
theorem do_apart_ref {i j r:Int} (h:atP os i = none ∨ atP os j = none ∨ ∃ m o,atP os i = some m ∧ atP os j = some o ∧ m.k ≠ o.k):Wm.DoesR (abs os) (.apart i j r) (abs os) Rc64.refused:=by
 show Rc64.does (abs os) (.apart i j r) = _
 unfold Rc64.does
 simp only
 rw [at_atP h8,at_atP h8]
 rcases h with h | h | ⟨m,o,h1,h2,h⟩
 ·rw [h]; rfl
 ·rw [h]
  cases atP os i <;> rfl
 ·rw [h1,h2]
  simp only [Option.map_some]
  rw [if_pos (show m.mach.k ≠ o.mach.k from h)]
omit h8 in
theorem apart_is {m o:Wm.PM} (hm:m.Ok) (ho:o.Ok) (hk:m.k = o.k) (hmn:m.n ≤ 32) (hon:o.n ≤ 32) (hk4:m.k ≤ 4) {r:Option Wm.Wd} (h:Wm.IsApart m.k (Wm.toLM m.mach) (Wm.toLM o.mach) r):Rc64.apartOf m.mach o.mach = r :=
 Wm.IsApart.unique (fun _ _=>rfl) (fun _ _=>rfl) (Wm.apartOf_ok hm.rt ho.rt hk hmn hon hk4) h
theorem do_apart {i j r:Int} {m o:Wm.PM} (h1:atP os i = some m) (h2:atP os j = some o) (hm:m.Ok) (ho:o.Ok) (hk:m.k = o.k) (hmn:m.n ≤ 32) (hon:o.n ≤ 32) (hk4:m.k ≤ 4) {x:Option Wm.Wd} (h:Wm.IsApart m.k (Wm.toLM m.mach) (Wm.toLM o.mach) x) :
  Wm.DoesR (abs os) (.apart i j r) (abs os) (apartAns r x):=by
 show Rc64.does (abs os) (.apart i j r) = _
 unfold Rc64.does
 simp only
 rw [at_atP h8,at_atP h8,h1,h2]
 simp only [Option.map_some]
 rw [if_neg (show ¬ m.mach.k ≠ o.mach.k from fun z=>z hk),apart_is hm ho hk hmn hon hk4 h]
 cases x <;> rfl
theorem do_least_ref {i sl:Int} (h:¬ (0 ≤ sl ∧ sl < 8) ∨ atP os i = none):Wm.DoesR (abs os) (.least i sl) (abs os) Rc64.refused:=by
 unfold Wm.DoesR
 simp only
 by_cases hs:Rc64.isSlot sl = false
 ·rw [if_pos hs]; exact ⟨by trivial,by trivial⟩
 ·rw [if_neg hs]
  have hs':0 ≤ sl ∧ sl < 8:=Wm.slot_iff.1 (by cases z:Rc64.isSlot sl with | true=>rfl | false=>exact absurd z hs)
  rcases h with h | h
  ·exact absurd hs' h
  ·rw [at_atP h8,h]
   exact ⟨by trivial,by trivial⟩
theorem do_least {i sl:Int} {m q:Wm.PM} (hs:0 ≤ sl ∧ sl < 8) (h1:atP os i = some m) (hq:Wm.LeastOk m.mach q.mach):Wm.DoesR (abs os) (.least i sl) (abs (os.set sl.toNat (some q))) { value:=(q.n:Nat) }:=by
 unfold Wm.DoesR
 simp only
 rw [if_neg (slot_yes hs),at_atP h8,h1]
 exact ⟨q.mach,hq,(abs_put os sl q).symm,rfl⟩
end
end Wp
namespace Wp
open PySem PySem.Spec PyProof.Rows L2
open PySem.W (Codec)
section
variable {P:Program} {w:World} {K:PySem.W.Frag} {mg:Str → Option Value} {base:Heap} {t:Adr}
noncomputable def natI (w:List Nat):List Int:=w.map fun (x:Nat)=>(x:Int)
noncomputable def sp_take_row (K:PySem.W.Frag) (t:Adr):Sp:=fun vs H Q _=>∃ (r a:Addr) (ns:List Int) (p:Nat) (w:List Nat) (tl:List Int),vs = [.ref r] ∧ ReaderAt K t.c_Reader H r a ns p ∧ ns.drop p = (w.length:Int) :: (natI w ++ tl) ∧
 ∀ H' l,ReaderAt K t.c_Reader H' r a ns (p + 1 + w.length) → H l = none → H' l = some (.lst (nums w)) → (∀ b o,H b = some o → b ≠ r → H' b = some o) → ns.drop (p + 1 + w.length) = tl → Q (.ref l) H'
theorem ok_Reader_take_row (T:Txt K mg t):FnOk P w K mg base CX0 3 t.f_Reader_take_row t.d_Reader_take_row ["self"] (sp_take_row K t):=by
 refine T.F_Reader_take_row.ok sc_Reader_take_row (fun vs H Q E h=>?_) (fun cdv A outer s H vs Q E hr h=>?_)
 ·obtain ⟨_,_,_,_,_,_,rfl,_⟩:=h
  rfl
 ·obtain ⟨r,a,ns,p,w,tl,rfl,R,e,k⟩:=h
  refine ⟨_,(pss_cons (ps_set (i:=1) sc_Reader_take_row.nd rfl (Or.inl rfl) (pe_meth0 (pv 0) T.cl_Reader T.me_Reader_take (ok_Reader_take T) (hr.mono (by decide)) (T.F_Reader_take.binds b_Reader_take) .nil pass0 ))
   (pss_cons (ps_set (i:=2) sc_Reader_take_row.nd rfl (Or.inl rfl) (pe_slice sl_list (pe_fld (pv 0) rfl) (po_some (pe_fld (pv 0) rfl)) (po_some (pe_op op_add (pe_fld (pv 0) rfl) (pv 1)))))
   (pss_cons (ps_fldaug (pv 0) (pv 1) in_add)
   (pss_one (ps_ret (pv 2)))))),?_⟩
  refine take_ok rfl R e fun H1 R1 k1 e1=>?_
  obtain ⟨dx,hi⟩:=R1.ins
  refine ⟨_,rfl,r,_,dx,_,_,rfl,hi,T.cl_Reader,T.na_Reader_calls,rF_calls ..,?_⟩
  refine ⟨_,rfl,r,_,dx,_,_,rfl,hi,T.cl_Reader,T.na_Reader_position,rF_pos ..,_,rfl,?_⟩
  refine ⟨_,rfl,r,_,dx,_,_,rfl,hi,T.cl_Reader,T.na_Reader_position,rF_pos ..,_,rfl,_,_,rfl,rfl,_,rfl,?_⟩
  refine ⟨a,ns.map V.int,rfl,R1.seq.sql,fun l hl=>?_⟩
  have hlen:ns.length = p + 1 + (w.length + tl.length):=by
   have h1:=congrArg List.length e1
   rw [List.length_drop,List.length_append,natI,List.length_map] at h1
   have:=R1.le
   omega
  have ecut:cutV (ns.map V.int) (some ((p + 1:Nat):Int)) (some (((p + 1:Nat):Int) + (w.length:Int))) = nums w:=by
   have e2:((p + 1:Nat):Int) + (w.length:Int) = ((p + 1 + w.length:Nat):Int):=by omega
   unfold cutV
   rw [e2,HT.sIx_nat,HT.sIx_nat,List.length_map,Nat.min_eq_left (by omega),Nat.min_eq_left (by omega),← List.map_drop,e1]
   have e3:p + 1 + w.length - (p + 1) = w.length:=by omega
   rw [e3,List.map_append,List.take_append_of_le_length (by simp [natI])]
   rw [List.take_of_length_le (by simp [natI])]
   unfold natI nums
   rw [List.map_map]
   rfl
  rw [ecut]
  have nlr:r ≠ l:=ne_of_none hi hl
  have hi2:upd H1 l (.lst (nums w)) r = some (.ins t.c_Reader dx (rF a ((p + 1:Nat):Int))):=by rw [upd_ne nlr]; exact hi
  refine ⟨_,rfl,r,_,dx,_,_,rfl,hi2,T.cl_Reader,T.na_Reader_position,rF_pos ..,_,rfl,_,_,rfl,rfl,dx,_,hi2,(by show 2 < 1000; decide),?_⟩
  have e4:putF "position" (V.int (((p + 1:Nat):Int) + (w.length:Int))) (rF a ((p + 1:Nat):Int)) = rF a ((p + 1 + w.length:Nat):Int):=by
   rw [rF_put]
   congr 1
  refine ⟨_,rfl,k _ l ⟨⟨dx,?_⟩,?_,by omega,R.few⟩ ?_ ?_ (fun b o eb nb=>?_) ?_⟩
  ·rw [upd_same]
   exact congrArg (fun q=>some (HO.ins t.c_Reader dx q)) e4
  ·refine R1.seq.frame fun b o u eb=>?_
   rw [upd_ne (ne_of eb hi (by intro z; cases z)),upd_ne (ne_of_none eb hl)]
   exact eb
  ·by_cases z:l = r
   ·exact absurd z.symm nlr
   ·rw [← k1 l z]; exact hl
  ·rw [upd_ne (Ne.symm nlr),upd_same]
  ·have:=k1 b nb
   rw [eb] at this
   rw [upd_ne nb,upd_ne (ne_of_none this hl)]
   exact this
  ·have:=congrArg (List.drop w.length) e1
   rw [List.drop_drop] at this
   rw [this,List.drop_left' (by simp [natI])]
noncomputable def AtV (t:Adr) (H:Hp) (S:List Addr) (v:V) (o:Option Wm.PM):Prop:=(v = .non ∧ o = none) ∨ ∃ a m f,v = .ref a ∧ o = some m ∧ Mach t.c_Machine H a m f ∧ m.n ≤ 32 ∧ m.k ≤ 4 ∧ ∀ b,b ∈ f → b ∈ S
theorem AtV.frame {H H':Hp} {S:List Addr} {v:V} {o:Option Wm.PM} (h:AtV t H S v o) (k:∀ b,b ∈ S → H' b = H b):AtV t H' S v o:=by
 rcases h with h | ⟨a,m,f,e1,e2,M,h1,h2,h3⟩
 ·exact .inl h
 ·exact .inr ⟨a,m,f,e1,e2,M.frame fun b hb=>k b (h3 b hb),h1,h2,h3⟩
theorem AtV.same {H H':Hp} {S:List Addr} {v:V} {o:Option Wm.PM} (h:AtV t H S v o) (k:Same H H'):AtV t H' S v o:=by
 rcases h with h | ⟨a,m,f,e1,e2,M,h1,h2,h3⟩
 ·exact .inl h
 ·exact .inr ⟨a,m,f,e1,e2,M.same k,h1,h2,h3⟩
theorem PlacesAt.atV {H:Hp} {pl lm:Addr} {us:List V} {os:List (Option Wm.PM)} {fs:List (List Addr)} (PA:PlacesAt t H pl lm us os fs) (i:Int):AtV t H (pl :: lm :: fs.flatten) (if 0 ≤ i ∧ i < 8 then us.getD i.toNat .non else .non) (atP os i):=by
 unfold atP
 by_cases hc:0 ≤ i ∧ i < 8
 ·rw [if_pos hc,if_pos hc]
  rcases PA.slot hc with ⟨e1,e2⟩ | ⟨a,m,f,h1,e1,e2,h2,M,hn,hk⟩
  ·exact .inl ⟨e1,e2⟩
  ·exact .inr ⟨a,m,f,e1,e2,M,hn,hk,fun b hb=>List.mem_cons_of_mem _ (List.mem_cons_of_mem _ (List.mem_flatten.2 ⟨f,List.mem_of_getElem? h2,hb⟩))⟩
 ·rw [if_neg hc,if_neg hc]
  exact .inl ⟨rfl,rfl⟩
theorem Done.start {H H1:Hp} {pl rd a:Addr} {ns tl:List Int} {os:List (Option Wm.PM)} {S:List Addr} {p1:Nat} (h:Places t H pl os S) (hr:rd ∉ S) (R:ReaderAt K t.c_Reader H1 rd a ns p1) (e:ns.drop p1 = tl) (k:∀ b o,H b = some o → b ≠ rd → H1 b = some o) :
  Done K t H H1 pl rd a ns tl os os S S p1:=by
 refine ⟨h.frame fun b hb=>?_,R,e,⟨fun b o eb hb=>k b o eb fun z=>hb (by simp [z]),fun b hb=>.inl hb,fun b hb=>?_⟩,hr⟩
 ·cases q:H b with
  | none=>exact absurd q (h.none b hb)
  | some o=>exact k b o q fun z=>hr (z ▸ hb)
 ·cases q:H b with
  | none=>rfl
  | some o =>
   by_cases z:b = rd
   ·obtain ⟨dx,hi⟩:=R.ins
    rw [z,hi] at hb; cases hb
   ·have:=k b o q z
    rw [hb] at this; cases this
theorem Done.grow {H H1 H2:Hp} {pl rd a:Addr} {ns tl:List Int} {os os1:List (Option Wm.PM)} {S S1:List Addr} {p1:Nat} (d:Done K t H H1 pl rd a ns tl os os1 S S1 p1) (s:Same H1 H2):Done K t H H2 pl rd a ns tl os os1 S S1 p1:=by
 obtain ⟨dx,hi⟩:=d.rdr.ins
 exact ⟨d.plc.frame fun b hb=>same_eq s (d.plc.none b hb),⟨⟨dx,s _ _ hi⟩,d.rdr.seq.frame fun b o u e=>s _ _ e,d.rdr.le,d.rdr.few⟩,d.tll,⟨fun b o e hb=>s _ _ (d.mv.keep b o e hb),d.mv.new,fun b hb=>d.mv.more b (s.free hb)⟩,d.nr⟩
theorem natI_of {ws:List Int} (h:∀ z,z ∈ ws → 0 ≤ z):ws = natI (ws.map Int.toNat):=by
 unfold natI
 rw [List.map_map]
 conv=>lhs; rw [← List.map_id ws]
 refine List.map_congr_left fun z hz=>?_
 have:=h z hz
 show z = ((z.toNat:Nat):Int)
 omega
theorem ret_same {H H1:Hp} {pl rd a:Addr} {ns tl:List Int} {os:List (Option Wm.PM)} {S:List Addr} {p1:Nat} {Q:VK} {c:Rc64.Call} {an:Rc64.Ans} {xs:List V} (d:Done K t H H1 pl rd a ns tl os os S S p1) (hd:Wm.DoesR (abs os) c (abs os) an) (hx:xs = ansV an)
  (k:∀ (H':Hp) (l:Addr) (os':List (Option Wm.PM)) (S':List Addr) (pos':Nat) (an:Rc64.Ans),Done K t H H' pl rd a ns tl os os' S S' pos' → Wm.DoesR (abs os) c (abs os') an → H l = none → l ∉ rd :: S' → H' l = some (.lst (ansV an)) → Q (.ref l) H'):∀ l,H1 l = none → Q (.ref l) (upd H1 l (.lst xs)):=fun l hl=>by
 obtain ⟨d2,hl0,hlS⟩:=d.list (o:=.lst xs) hl
 exact k _ l os S _ an d2 hd hl0 hlS (by rw [upd_same,hx])
theorem ok_worth (T:Txt K mg t):FnOk P w K mg base CX0 8 t.f_worth t.d_worth ["places","reader"] (sp_call K t 5):=by
 refine T.F_worth.ok sc_worth (fun vs H Q E h=>?_) (fun cdv A outer s H vs Q E hr h=>?_)
 ·obtain ⟨pl,rd,a,ns,r,tl,pos,os,S,c,q,rfl,_⟩:=h
  rfl
 ·obtain ⟨pl,rd,a,ns,r,tl,pos,os,S,c,q,rfl,hP,hR,hrS,er,rr,ha,k⟩:=h
  obtain ⟨sl,ws,rfl,rfl,rfl⟩:=rr.i5
  clear rr
  obtain ⟨dr,hri⟩:=hR.ins
  obtain ⟨hnat,hlen200,hlen⟩:=Wm.askedW ha
  have hle:ws.length ≤ 65536:=by
   by_cases hz:(0:Int) ≤ (ws.length:Int) ∧ (ws.length:Int) ≤ 65536
   ·omega
   ·rw [if_neg hz] at hlen; omega
  have hws:=natI_of fun z hz=>hnat z hz
  have e8:os.length = 8:=by obtain ⟨lm,us,fs,PA,_⟩:=hP; exact PA.len
  refine ⟨_,(pss_cons (ps_set (i:=2) sc_worth.nd rfl (Or.inl rfl) (pe_meth0 (pv 1) T.cl_Reader T.me_Reader_take (ok_Reader_take T) (hr.mono (by decide)) (T.F_Reader_take.binds b_Reader_take) .nil pass0 ))
   (pss_cons (ps_set (i:=3) sc_worth.nd rfl (Or.inl rfl) (pe_meth0 (pv 1) T.cl_Reader T.me_Reader_take_row (ok_Reader_take_row T) (hr.mono (by decide)) (T.F_Reader_take_row.binds b_Reader_take_row) .nil pass0 ))
   (pss_cons (ps_set (i:=4) sc_worth.nd rfl (Or.inl rfl) (pe_meth (pv 0) T.cl_Places T.me_Places_machine_at (ok_Places_machine_at T) (hr.mono (by decide)) (T.F_Places_machine_at.binds b_Places_machine_at) .nil pass0 (pa_cons (pv 2) pa_nil)))
   (pss_cons (ps_if (PW.pt (pw_or (pt_cmpR op_isN (pv 4) pe_non (nomark _)) (pw_or1 (pt_not (pt_truth (pe_call (ok_is_word T) (hr.mono (by decide)) rfl T.m_is_word T.F_is_word.kp (T.F_is_word.binds b_is_word) .nil pass0 (pa_cons (pv 4) (pa_cons (pv 3) pa_nil))) (fun _=>rfl)))))) (pss_one (ps_ret (pe_lst (pa_cons (pe_glob (v:=.int (-1)) rfl T.m_REFUSED ⟨_,rfl⟩) pa_nil)))) pss_nil)
   (pss_one (ps_ret (pe_lst (pa_cons (pe_call (ok_worth_of T) (hr.mono (by decide)) rfl T.m_worth_of T.F_worth_of.kp (T.F_worth_of.binds b_worth_of) .nil pass0 (pa_cons (pv 4) (pa_cons (pv 3) pa_nil))) pa_nil)))))))),?_⟩
  refine take_ok rfl hR er fun H1 R1 k1 e1=>?_
  obtain ⟨d1,hi1⟩:=R1.ins
  have hwl:((ws.map Int.toNat).length:Int) = (ws.length:Int):=by rw [List.length_map]
  refine ⟨_,rfl,rd,d1,_,rfl,hi1,rF_no _ _ (by decide +kernel) (by decide +kernel),rd,a,ns,pos + 1,ws.map Int.toNat,tl,rfl,R1,by rw [hwl,← hws]; exact e1,fun H2 l R2 hl0 hl2 kp2 e2=>?_⟩
  have kp:∀ b o,H b = some o → b ≠ rd → H2 b = some o:=fun b o eb nb=>kp2 b o (by rw [k1 b nb]; exact eb) nb
  have D0:=Done.start hP hrS R2 e2 kp
  obtain ⟨lm,us,fs,PA,hS⟩:=D0.plc
  obtain ⟨dx,hi⟩:=PA.ins
  refine ⟨_,rfl,pl,dx,_,rfl,hi,mF1_no _ (by decide +kernel),_,rfl,pl,lm,us,os,fs,sl,rfl,PA,?_⟩
  have av:=PA.atV sl
  generalize (if 0 ≤ sl ∧ sl < 8 then us.getD sl.toNat .non else .non) = v at av ⊢
  rcases av with ⟨rfl,ev⟩ | ⟨am,m,f,rfl,ev,M,hn,hk,_⟩
  ·refine ⟨_,rfl,rfl,_,rfl,?_⟩
   refine itY rfl ?_
   refine itY rfl ?_
   exact ⟨by show 1 ≤ sizeLine; decide,ret_same D0 (do_worth_none e8 ev) rfl k⟩
  ·refine ⟨_,rfl,rfl,_,rfl,?_⟩
   refine itN rfl ?_
   have hl13:(ws.map Int.toNat).length ≤ 13000:=by
    have h1:=congrArg List.length e1
    rw [List.length_drop,List.length_cons,List.length_append] at h1
    have:=R1.few
    rw [List.length_map]
    omega
   refine ⟨_,rfl,_,rfl,_,⟨am,m,f,l,ws.map Int.toNat,rfl,M,hl2,hl13,rfl⟩,fun H3 s3=>⟨_,rfl,?_⟩⟩
   by_cases hall:Wm.lets m.k (ws.map Int.toNat)
   ·have eall:((ws.map Int.toNat).all fun x=>decide (x < m.k)) = true:=List.all_eq_true.2 fun x hx=>decide_eq_true (hall x hx)
    refine itN (by rw [eall]; rfl) ?_
    refine ⟨_,rfl,_,rfl,_,⟨am,m,f,l,ws.map Int.toNat,rfl,M.same s3,s3 _ _ hl2,hall,by omega,rfl⟩,fun H4 s4=>⟨by show 1 ≤ sizeLine; decide,?_⟩⟩
    exact ret_same (D0.grow (s3.trans s4)) (do_worth e8 ev M.ok hall (by omega) (by omega)) rfl k
   ·have eall:((ws.map Int.toNat).all fun x=>decide (x < m.k)) = false:=bool_false fun z=>hall fun x hx=>of_decide_eq_true (List.all_eq_true.1 z x hx)
    refine itY (by rw [eall]; rfl) ?_
    exact ⟨by show 1 ≤ sizeLine; decide,ret_same (D0.grow s3) (do_worth_bad e8 ev hall) rfl k⟩
noncomputable def comparable:Option Wm.PM → Option Wm.PM → Bool
 | some m,some o=>decide (m.k = o.k)
 | _,_=>false
theorem ev_notN {σ:L2.St} {H:Hp} {ta:TE} {v:V} (ha:Ev ta σ H v):Ev (tOp (fun x y H Q=>y = .non ∧ Q (.bl (!decide (x = .non))) H) ta (tC .non)) σ H (.bl (!decide (v = .non))):=fun H' s R k =>
 ha H' s _ fun H1 s1=>⟨rfl,k H1 s1⟩
noncomputable def sp_are_comparable (t:Adr):Sp:=SpV fun vs H r=>∃ (v u:V) (o1 o2:Option Wm.PM) (S:List Addr),vs = [v,u] ∧ AtV t H S v o1 ∧ AtV t H S u o2 ∧ r = .bl (comparable o1 o2)
theorem ok_are_comparable (T:Txt K mg t):FnOk P w K mg base CX0 1 t.f_are_comparable t.d_are_comparable ["one","other"] (sp_are_comparable t):=by
 refine T.F_are_comparable.ok sc_are_comparable (fun vs H Q E h=>?_) (fun cdv A outer s H vs Q E hr h=>?_)
 ·obtain ⟨_,⟨_,_,_,_,_,rfl,_⟩,_⟩:=h
  rfl
 ·obtain ⟨_,⟨v,u,o1,o2,S,rfl,a1,a2,rfl⟩,k⟩:=h
  refine ⟨_,(pss_one (ps_ret (pe_and (pe_cmpR op_notN (pv 0) pe_non (nomark _)) (pe_and (pe_cmpR op_notN (pv 1) pe_non (nomark _)) (pe_one (pe_cmpR op_eq (pe_fld (pv 0) rfl) (pe_fld (pv 1) rfl) (nomark _))))))),?_⟩
  rcases a1 with ⟨rfl,rfl⟩ | ⟨a,m,f,rfl,rfl,⟨dx,lf,ll,lh,ps,MA,_⟩,_⟩
  ·exact st_ret (Ev.eq (ev_and (b:=false) (c:=false) (ev_notN (v:=.non) (ev_var rfl)) fun z=>by cases z) rfl) (Same.refl H) k
  ·rcases a2 with ⟨rfl,rfl⟩ | ⟨b,o,g,rfl,rfl,⟨dx',lf',ll',lh',ps',MB,_⟩,_⟩
   ·exact st_ret (Ev.eq (ev_and (b:=true) (c:=false) (ev_notN (v:=.ref a) (ev_var rfl)) fun _=>ev_and (b:=false) (c:=false) (ev_notN (v:=.non) (ev_var rfl)) fun z=>by cases z) rfl) (Same.refl H) k
   ·refine st_ret (Ev.eq (ev_and (b:=true) (c:=decide ((m.k:Int) = (o.k:Int))) (ev_notN (v:=.ref a) (ev_var rfl)) fun _=>Ev.eq (ev_and (b:=true) (c:=decide ((m.k:Int) = (o.k:Int))) (ev_notN (v:=.ref b) (ev_var rfl)) fun _=>ev_eqI (ev_letters T (ev_var rfl) MA) (ev_letters T (ev_var rfl) MB)) (by rw [Bool.true_and])) ?_) (Same.refl H) k
    rw [Bool.true_and]
    show V.bl (decide ((m.k:Int) = (o.k:Int))) = V.bl (decide (m.k = o.k))
    congr 1
    by_cases h:m.k = o.k
    ·rw [decide_eq_true h]; exact decide_eq_true (by omega)
    ·rw [decide_eq_false h]; exact decide_eq_false (by omega)
theorem at_take {σ:L2.St} {H:Hp} {Q:VK} {pl rd a:Addr} {ns r:List Int} {p:Nat} {x:Int} {os:List (Option Wm.PM)} {S:List Addr} (h0:σ[0]? = some (some (.ref pl))) (h1:σ[1]? = some (some (.ref rd))) (hP:Places t H pl os S) (hrS:rd ∉ S) (R:ReaderAt K t.c_Reader H rd a ns p) (e:ns.drop p = x :: r)
  (k:∀ H' v,Places t H' pl os S → ReaderAt K t.c_Reader H' rd a ns (p + 1) → (∀ b,b ≠ rd → H' b = H b) → ns.drop (p + 1) = r → AtV t H' S v (atP os x) → Q v H') :
  tMeth t.c_Places "machine_at" (sp_machine_at t) [] E0 (tVar 0) (tCons (tMeth t.c_Reader "take" (sp_Reader_take K t) [] E0 (tVar 1) tNil) tNil) σ H Q:=by
 obtain ⟨lm,us,fs,PA,hS⟩:=id hP
 obtain ⟨dx,hi⟩:=PA.ins
 refine ⟨_,h0,pl,dx,_,rfl,hi,mF1_no _ (by decide +kernel),take_ok h1 R e fun H' R' k' e'=>?_⟩
 have hP':=hP.read hrS k'
 obtain ⟨lm',us',fs',PA',hS'⟩:=id hP'
 refine ⟨pl,lm',us',os,fs',x,rfl,PA',k H' _ hP' R' k' e' ?_⟩
 rw [hS']
 exact PA'.atV x
theorem kind_n {m o:Wm.PM} {kd:Int} (h:0 ≤ kd ∧ kd ≤ 3):(kindP kd m o).n = statesOf kd m o:=by
 unfold kindP statesOf
 by_cases h0:kd = 0
 ·rw [if_pos h0,if_neg (by omega),if_neg (by omega)]; rfl
 by_cases h1:kd = 1
 ·rw [if_neg h0,if_pos h1,if_pos h1]; rfl
 by_cases h2:kd = 2
 ·rw [if_neg h0,if_neg h1,if_pos h2,if_neg (by omega),if_neg (by omega)]; rfl
 ·rw [if_neg h0,if_neg h1,if_neg h2,if_neg h1,if_pos (by omega)]; rfl
theorem kind_k {m o:Wm.PM} (kd:Int):(kindP kd m o).k = m.k:=by
 unfold kindP
 by_cases h0:kd = 0
 ·rw [if_pos h0]; rfl
 by_cases h1:kd = 1
 ·rw [if_neg h0,if_pos h1]; rfl
 by_cases h2:kd = 2
 ·rw [if_neg h0,if_neg h1,if_pos h2]; rfl
 ·rw [if_neg h0,if_neg h1,if_neg h2]; rfl
theorem kind_mach {m o:Wm.PM} (hm:m.Ok) (ho:o.Ok) (hk:m.k = o.k) (kd:Int):(kindP kd m o).mach = kindOf kd m.mach o.mach:=by
 unfold kindP kindOf
 by_cases h0:kd = 0
 ·rw [if_pos h0,if_pos h0]; exact Wm.added_mach hm ho hk
 by_cases h1:kd = 1
 ·rw [if_neg h0,if_neg h0,if_pos h1,if_pos h1]; exact Wm.mult_mach hm ho hk
 by_cases h2:kd = 2
 ·rw [if_neg h0,if_neg h0,if_neg h1,if_neg h1,if_pos h2,if_pos h2]; exact Wm.behind_mach hm ho hk
 ·rw [if_neg h0,if_neg h0,if_neg h1,if_neg h1,if_neg h2,if_neg h2]; exact Wm.turned_mach hm
theorem put_ret {σ:L2.St} {H H1 H2:Hp} {pl rd a x:Addr} {ns tl:List Int} {os:List (Option Wm.PM)} {S S2:List Addr} {p1:Nat} {Q:VK} {c:Rc64.Call} {q:Wm.PM} {sl:Int} {i j:Nat} {D:Ends} (T:Txt K mg t) (d:Done K t H H1 pl rd a ns tl os os S S p1) (h0:σ[0]? = some (some (.ref pl))) (hi:σ[i]? = some (some (.int sl))) (hj:σ[j]? = some (some (.ref x)))
  (hs:0 ≤ sl ∧ sl < 8) (s12:Same H1 H2) (M:Mach t.c_Machine H2 x q S2) (hn:q.n ≤ 32) (hk:q.k ≤ 4) (hf:∀ b,b ∈ S2 → H1 b = none) (hd:Wm.DoesR (abs os) c (abs (os.set sl.toNat (some q))) { value:=(q.n:Nat) })
  (k:∀ (H':Hp) (l:Addr) (os':List (Option Wm.PM)) (S':List Addr) (pos':Nat) (an:Rc64.Ans),Done K t H H' pl rd a ns tl os os' S S' pos' → Wm.DoesR (abs os) c (abs os') an → H l = none → l ∉ rd :: S' → H' l = some (.lst (ansV an)) → Q (.ref l) H')
  (hD:D = { nx:=fun σ H=>tRet (tLst (tCons (tFld K (tVar j) "states") tNil)) { nx:=fun _ H'=>Q .non H',rt:=Q } σ H,rt:=Q }) :
  tDrop (tMeth t.c_Places "put" (sp_put t) [] E0 (tVar 0) (tCons (tVar i) (tCons (tVar j) tNil))) D σ H2:=by
 subst hD
 obtain ⟨lm,us,fs,PA,hS⟩:=d.plc
 obtain ⟨dx,hpi⟩:=PA.ins
 have hus:us.length = 8:=by rw [PA.slots.len.1,PA.len]
 refine ⟨_,h0,pl,dx,_,rfl,s12 _ _ hpi,mF1_no _ (by decide +kernel),_,hi,_,hj,pl,lm,us,os,sl,x,dx,rfl,s12 _ _ hpi,s12 _ _ PA.lst,hus,hs.1,hs.2,?_⟩
 obtain ⟨S5,P5,mv5⟩:=PA.put hs.1 hs.2 s12 M hn hk hf
 rw [← hS] at mv5
 have D5:=d.next P5 mv5
 obtain ⟨dm,lf,ll,lh,ps,MA,_⟩:=M
 have hx5:upd H2 lm (.lst (us.set sl.toNat (.ref x))) x = some (.ins t.c_Machine dm (mF q.n q.k lf ll lh)):=by
  rw [upd_ne fun z=>by have:=s12 _ _ PA.lst; rw [← z,MA.ins] at this; cases this]
  exact MA.ins
 generalize upd H2 lm (.lst (us.set sl.toNat (.ref x))) = H5 at P5 mv5 D5 hx5 ⊢
 refine ⟨_,hj,x,_,dm,_,_,rfl,hx5,T.cl_Machine,T.na_Machine_states,mF_states ..,by show 1 ≤ sizeLine; decide,fun l hl=>?_⟩
 obtain ⟨d6,hl0,hlS⟩:=D5.list (o:=.lst [.int (q.n:Nat)]) hl
 exact k _ l _ S5 _ { value:=(q.n:Nat) } d6 hd hl0 hlS upd_same
theorem ok_make (T:Txt K mg t):FnOk P w K mg base CX0 14 t.f_make t.d_make ["places","reader"] (sp_call K t 6):=by
 refine T.F_make.ok sc_make (fun vs H Q E h=>?_) (fun cdv A outer s H vs Q E hr h=>?_)
 ·obtain ⟨pl,rd,a,ns,r,tl,pos,os,S,c,q,rfl,_⟩:=h
  rfl
 ·obtain ⟨pl,rd,a,ns,r,tl,pos,os,S,c,q,rfl,hP,hR,hrS,er,rr,ha,k⟩:=h
  obtain ⟨kd,i,j,sl,rfl,rfl,rfl⟩:=rr.i6
  clear rr
  have e8:os.length = 8:=by obtain ⟨lm,us,fs,PA,_⟩:=hP; exact PA.len
  refine ⟨_,(pss_cons (ps_set (i:=2) sc_make.nd rfl (Or.inl rfl) (pe_meth0 (pv 1) T.cl_Reader T.me_Reader_take (ok_Reader_take T) (hr.mono (by decide)) (T.F_Reader_take.binds b_Reader_take) .nil pass0 ))
   (pss_cons (ps_set (i:=3) sc_make.nd rfl (Or.inl rfl) (pe_meth (pv 0) T.cl_Places T.me_Places_machine_at (ok_Places_machine_at T) (hr.mono (by decide)) (T.F_Places_machine_at.binds b_Places_machine_at) .nil pass0 (pa_cons (pe_meth0 (pv 1) T.cl_Reader T.me_Reader_take (ok_Reader_take T) (hr.mono (by decide)) (T.F_Reader_take.binds b_Reader_take) .nil pass0 ) pa_nil)))
   (pss_cons (ps_set (i:=4) sc_make.nd rfl (Or.inl rfl) (pe_meth (pv 0) T.cl_Places T.me_Places_machine_at (ok_Places_machine_at T) (hr.mono (by decide)) (T.F_Places_machine_at.binds b_Places_machine_at) .nil pass0 (pa_cons (pe_meth0 (pv 1) T.cl_Reader T.me_Reader_take (ok_Reader_take T) (hr.mono (by decide)) (T.F_Reader_take.binds b_Reader_take) .nil pass0 ) pa_nil)))
   (pss_cons (ps_set (i:=5) sc_make.nd rfl (Or.inl rfl) (pe_meth0 (pv 1) T.cl_Reader T.me_Reader_take (ok_Reader_take T) (hr.mono (by decide)) (T.F_Reader_take.binds b_Reader_take) .nil pass0 ))
   (pss_cons (ps_if (PW.pt (pw_or (pt_not (pt_truth (pe_call (ok_is_kind T) (hr.mono (by decide)) rfl T.m_is_kind T.F_is_kind.kp (T.F_is_kind.binds b_is_kind) .nil pass0 (pa_cons (pv 2) pa_nil)) (fun _=>rfl))) (pw_or (pt_not (pt_truth (pe_call (ok_is_place T) (hr.mono (by decide)) rfl T.m_is_place T.F_is_place.kp (T.F_is_place.binds b_is_place) .nil pass0 (pa_cons (pv 5) pa_nil)) (fun _=>rfl))) (pw_or1 (pt_not (pt_truth (pe_call (ok_are_comparable T) (hr.mono (by decide)) rfl T.m_are_comparable T.F_are_comparable.kp (T.F_are_comparable.binds b_are_comparable) .nil pass0 (pa_cons (pv 3) (pa_cons (pv 4) pa_nil))) (fun _=>rfl))))))) (pss_one (ps_ret (pe_lst (pa_cons (pe_glob (v:=.int (-1)) rfl T.m_REFUSED ⟨_,rfl⟩) pa_nil)))) pss_nil)
   (pss_cons (ps_if (pt_cmpR op_gt (pe_call (ok_states_made T) (hr.mono (by decide)) rfl T.m_states_made T.F_states_made.kp (T.F_states_made.binds b_states_made) .nil pass0 (pa_cons (pv 2) (pa_cons (pv 3) (pa_cons (pv 4) pa_nil)))) (pe_glob (v:=.int 32) rfl T.m_MOST_STATES ⟨_,rfl⟩) (nomark _)) (pss_one (ps_ret (pe_lst (pa_cons (pe_glob (v:=.int (-2)) rfl T.m_TOO_MANY ⟨_,rfl⟩) pa_nil)))) pss_nil)
   (pss_cons (ps_set (i:=6) sc_make.nd rfl (Or.inl rfl) (pe_call (ok_made_of_two T) (hr.mono (by decide)) rfl T.m_made_of_two T.F_made_of_two.kp (T.F_made_of_two.binds b_made_of_two) .nil pass0 (pa_cons (pv 2) (pa_cons (pv 3) (pa_cons (pv 4) pa_nil)))))
   (pss_cons (ps_expr (pe_meth (pv 0) T.cl_Places T.me_Places_put (ok_Places_put T) (hr.mono (by decide)) (T.F_Places_put.binds b_Places_put) .nil pass0 (pa_cons (pv 5) (pa_cons (pv 6) pa_nil))))
   (pss_one (ps_ret (pe_lst (pa_cons (pe_fld (pv 6) rfl) pa_nil)))))))))))),?_⟩
  refine take_ok rfl hR er fun H1 R1 k1 e1=>?_
  have P1:=hP.read hrS k1
  refine at_take rfl rfl P1 hrS R1 e1 fun H2 v P2 R2 k2 e2 av2=>?_
  refine at_take rfl rfl P2 hrS R2 e2 fun H3 u P3 R3 k3 e3 au3=>?_
  refine take_ok rfl R3 e3 fun H4 R4 k4 e4=>?_
  have fS:∀ b,b ∈ S → b ≠ rd:=fun b hb z=>hrS (z ▸ hb)
  have av:AtV t H4 S v (atP os i):=av2.frame fun b hb=>by rw [k4 b (fS b hb),k3 b (fS b hb)]
  have au:AtV t H4 S u (atP os j):=au3.frame fun b hb=>by rw [k4 b (fS b hb)]
  have D0:=Done.start hP hrS R4 e4 fun b o eb nb=>by rw [k4 b nb,k3 b nb,k2 b nb,k1 b nb]; exact eb
  refine ⟨_,rfl,_,⟨kd,rfl,rfl⟩,fun H5 s5=>⟨_,rfl,?_⟩⟩
  have D5:=D0.grow s5
  by_cases hc1:¬ (0 ≤ kd ∧ kd ≤ 3)
  ·refine itY (by rw [decide_eq_false hc1]; rfl) ?_
   refine itY rfl ?_
   refine ⟨by show 1 ≤ sizeLine; decide,ret_same D5 (do_make_ref e8 ?_) rfl k⟩
   cases ei:atP os i with
   | none=>exact .inr (.inl rfl)
   | some m =>
    cases ej:atP os j with
    | none=>exact .inr (.inr (.inl rfl))
    | some o=>exact .inr (.inr (.inr ⟨m,o,rfl,rfl,.inr hc1⟩))
  have hc1:0 ≤ kd ∧ kd ≤ 3:=Classical.byContradiction hc1
  refine itN (by rw [decide_eq_true hc1]; rfl) ?_
  refine ⟨_,rfl,sl,rfl,_,rfl,?_⟩
  by_cases hc2:¬ (0 ≤ sl ∧ sl < 8)
  ·refine itY (by rw [decide_eq_false hc2]; rfl) ?_
   refine itY rfl ?_
   exact ⟨by show 1 ≤ sizeLine; decide,ret_same D5 (do_make_ref e8 (.inl hc2)) rfl k⟩
  have hc2:0 ≤ sl ∧ sl < 8:=Classical.byContradiction hc2
  refine itN (by rw [decide_eq_true hc2]; rfl) ?_
  refine ⟨_,rfl,_,rfl,_,⟨v,u,_,_,S,rfl,av.same s5,au.same s5,rfl⟩,fun H6 s6=>⟨_,rfl,?_⟩⟩
  have D6:=D5.grow s6
  have s56:=s5.trans s6
  rcases av.same s56 with ⟨rfl,ei⟩ | ⟨am,m,f,rfl,ei,M,hn,hk,_⟩
  ·refine itY (by rw [ei]; rfl) ?_
   exact ⟨by show 1 ≤ sizeLine; decide,ret_same D6 (do_make_ref e8 (.inr (.inl ei))) rfl k⟩
  rcases au.same s56 with ⟨rfl,ej⟩ | ⟨bm,o,g,rfl,ej,N,hn',hk',_⟩
  ·refine itY (by rw [ei,ej]; rfl) ?_
   exact ⟨by show 1 ≤ sizeLine; decide,ret_same D6 (do_make_ref e8 (.inr (.inr (.inl ej)))) rfl k⟩
  by_cases hkk:¬ m.k = o.k
  ·refine itY (by rw [ei,ej]; show (!decide (m.k = o.k)) = true; rw [decide_eq_false hkk]; rfl) ?_
   exact ⟨by show 1 ≤ sizeLine; decide,ret_same D6 (do_make_ref e8 (.inr (.inr (.inr ⟨m,o,ei,ej,.inl hkk⟩)))) rfl k⟩
  have hkk:m.k = o.k:=Classical.byContradiction hkk
  refine itN (by rw [ei,ej]; show (!decide (m.k = o.k)) = false; rw [decide_eq_true hkk]; rfl) ?_
  have hkind:=kind_mach M.ok N.ok hkk kd
  have hnk:=kind_n (m:=m) (o:=o) hc1
  refine (evt_test (ev_op0 (g:=fun i j=>V.bl (decide (j < i))) (i:=((statesOf kd m o:Nat):Int)) (j:=32) (ev_call (evap_v (v:=.int kd) (ev_var rfl) (evap_v (v:=.ref am) (ev_var rfl) (evap_v (v:=.ref bm) (ev_var rfl) evap_nil))) fun vs H' s' h=>?_) ev_c)) H6 (Same.refl H6) _ fun H7 s7=>?_
  ·obtain ⟨us,rfl,us',rfl,us'',rfl,rfl⟩:=h
   exact ⟨kd,am,bm,m,o,f,g,rfl,M.same s',N.same s',by omega,rfl⟩
  have D7:=D6.grow s7
  by_cases hbig:32 < statesOf kd m o
  ·refine itY (decide_eq_true (by omega)) ?_
   refine ⟨by show 1 ≤ sizeLine; decide,ret_same D7 (do_make_big e8 hc2 ei ej hkk hc1 ?_) rfl k⟩
   rw [← hkind]
   show 32 < (kindP kd m o).n
   rw [hnk]; exact hbig
  refine itN (decide_eq_false (by omega)) ?_
  refine ⟨_,rfl,_,rfl,_,rfl,kindP kd m o,⟨kd,am,bm,m,o,f,g,rfl,M.same s7,N.same s7,hkk,by omega,by omega,by omega,rfl⟩,fun H8 x S8 s8 M8 f8=>?_⟩
  exact put_ret (i:=5) (j:=6) T D7 rfl rfl rfl hc2 s8 M8 (by rw [hnk]; omega) (by rw [kind_k]; exact hk) f8 (do_make e8 hc2 ei ej hkk hc1 hkind (by rw [hnk]; omega)) k rfl
noncomputable def sp_most_letters_in:Sp:=SpV fun vs _ r=>∃ x:Int,vs = [.int x] ∧ r = .int (Rc64.roomOf x:Nat)
theorem ok_most_letters_in (T:Txt K mg t):FnOk P w K mg base CX0 1 t.f_most_letters_in t.d_most_letters_in ["room"] sp_most_letters_in:=by
 refine T.F_most_letters_in.ok sc_most_letters_in (fun vs H Q E h=>?_) (fun cdv A outer s H vs Q E hr h=>?_)
 ·obtain ⟨_,⟨_,rfl,_⟩,_⟩:=h
  rfl
 ·obtain ⟨_,⟨x,rfl,rfl⟩,k⟩:=h
  refine ⟨_,(pss_one (ps_ret (pe_ifExp (pt_chain op_le op_le pe_int (pv 0) (pe_glob (v:=.int 65536) rfl T.m_MOST_ROOM ⟨_,rfl⟩)) (pv 0) pe_int))),?_⟩
  have hch:EvT (tTest (tChain (rI0 fun i j=>.bl (decide (i ≤ j))) (rI0 fun i j=>.bl (decide (i ≤ j))) (tC (.int 1)) (tVar 0) (tC (.int 65536)))) [some (.int x)] H (decide (1 ≤ x) && decide (x ≤ 65536)):=evt_test (ev_chain (g:=fun i j=>decide (i ≤ j)) (g':=fun i j=>decide (i ≤ j)) (x:=1) (y:=x) (z:=65536) ev_c (ev_var rfl) ev_c)
  unfold Rc64.roomOf at k
  refine st_ret (ev_if hch (fun hb=>?_) fun hb=>?_) (Same.refl H) k
  ·have hb:1 ≤ x ∧ x ≤ 65536:=by simpa using hb
   refine Ev.eq (ev_var rfl) (congrArg V.int ?_)
   rw [if_pos (show 1 ≤ x ∧ x ≤ ((Rc64.LONG:Nat):Int) from hb)]; omega
  ·have hb:¬ (1 ≤ x ∧ x ≤ 65536):=by intro z; simp [z] at hb
   refine Ev.eq ev_c (congrArg V.int ?_)
   show (0:Int) = _
   rw [if_neg (show ¬ (1 ≤ x ∧ x ≤ ((Rc64.LONG:Nat):Int)) from hb)]; rfl
theorem room_le' (x:Int):Rc64.roomOf x ≤ 65536:=Wm.room_le x
theorem ok_apart (T:Txt K mg t):FnOk P w K mg base CX0 20 t.f_apart t.d_apart ["places","reader"] (sp_call K t 7):=by
 refine T.F_apart.ok sc_apart (fun vs H Q E h=>?_) (fun cdv A outer s H vs Q E hr h=>?_)
 ·obtain ⟨pl,rd,a,ns,r,tl,pos,os,S,c,q,rfl,_⟩:=h
  rfl
 ·obtain ⟨pl,rd,a,ns,r,tl,pos,os,S,c,q,rfl,hP,hR,hrS,er,rr,ha,k⟩:=h
  obtain ⟨i,j,rm,rfl,rfl,rfl⟩:=rr.i7
  clear rr
  have hsz:sizeLine = 16777216:=sizeLine_eq
  have e8:os.length = 8:=by obtain ⟨lm,us,fs,PA,_⟩:=hP; exact PA.len
  refine ⟨_,(pss_cons (ps_set (i:=2) sc_apart.nd rfl (Or.inl rfl) (pe_meth (pv 0) T.cl_Places T.me_Places_machine_at (ok_Places_machine_at T) (hr.mono (by decide)) (T.F_Places_machine_at.binds b_Places_machine_at) .nil pass0 (pa_cons (pe_meth0 (pv 1) T.cl_Reader T.me_Reader_take (ok_Reader_take T) (hr.mono (by decide)) (T.F_Reader_take.binds b_Reader_take) .nil pass0 ) pa_nil)))
   (pss_cons (ps_set (i:=3) sc_apart.nd rfl (Or.inl rfl) (pe_meth (pv 0) T.cl_Places T.me_Places_machine_at (ok_Places_machine_at T) (hr.mono (by decide)) (T.F_Places_machine_at.binds b_Places_machine_at) .nil pass0 (pa_cons (pe_meth0 (pv 1) T.cl_Reader T.me_Reader_take (ok_Reader_take T) (hr.mono (by decide)) (T.F_Reader_take.binds b_Reader_take) .nil pass0 ) pa_nil)))
   (pss_cons (ps_set (i:=4) sc_apart.nd rfl (Or.inl rfl) (pe_meth0 (pv 1) T.cl_Reader T.me_Reader_take (ok_Reader_take T) (hr.mono (by decide)) (T.F_Reader_take.binds b_Reader_take) .nil pass0 ))
   (pss_cons (ps_if (pt_not (pt_truth (pe_call (ok_are_comparable T) (hr.mono (by decide)) rfl T.m_are_comparable T.F_are_comparable.kp (T.F_are_comparable.binds b_are_comparable) .nil pass0 (pa_cons (pv 2) (pa_cons (pv 3) pa_nil))) (fun _=>rfl))) (pss_one (ps_ret (pe_lst (pa_cons (pe_glob (v:=.int (-1)) rfl T.m_REFUSED ⟨_,rfl⟩) pa_nil)))) pss_nil)
   (pss_cons (ps_set (i:=5) sc_apart.nd rfl (Or.inl rfl) (pe_call (ok_first_word_apart T) (hr.mono (by decide)) rfl T.m_first_word_apart T.F_first_word_apart.kp (T.F_first_word_apart.binds b_first_word_apart) .nil pass0 (pa_cons (pv 2) (pa_cons (pv 3) pa_nil))))
   (pss_cons (ps_if (pt_cmpR op_isN (pv 5) pe_non (nomark _)) (pss_one (ps_ret (pe_lst (pa_cons (pe_glob (v:=.int (-3)) rfl T.m_THE_SAME ⟨_,rfl⟩) pa_nil)))) pss_nil)
   (pss_cons (ps_if (pt_cmpR op_gt (pe_callB call_len_seq (by rfl) T.b_len PySem.boot_len (pa_cons (pv 5) pa_nil)) (pe_call (ok_most_letters_in T) (hr.mono (by decide)) rfl T.m_most_letters_in T.F_most_letters_in.kp (T.F_most_letters_in.binds b_most_letters_in) .nil pass0 (pa_cons (pv 4) pa_nil)) (nomark _)) (pss_one (ps_ret (pe_lst (pa_cons (pe_glob (v:=.int (-2)) rfl T.m_TOO_MANY ⟨_,rfl⟩) pa_nil)))) pss_nil)
   (pss_one (ps_ret (pe_op op_cat (pe_lst (pa_cons (pe_callB call_len_seq (by rfl) T.b_len PySem.boot_len (pa_cons (pv 5) pa_nil)) pa_nil)) (pv 5))))))))))),?_⟩
  refine at_take rfl rfl hP hrS hR er fun H2 v P2 R2 k2 e2 av2=>?_
  refine at_take rfl rfl P2 hrS R2 e2 fun H3 u P3 R3 k3 e3 au3=>?_
  refine take_ok rfl R3 e3 fun H4 R4 k4 e4=>?_
  have fS:∀ b,b ∈ S → b ≠ rd:=fun b hb z=>hrS (z ▸ hb)
  have av:AtV t H4 S v (atP os i):=av2.frame fun b hb=>by rw [k4 b (fS b hb),k3 b (fS b hb)]
  have au:AtV t H4 S u (atP os j):=au3.frame fun b hb=>by rw [k4 b (fS b hb)]
  have D0:=Done.start hP hrS R4 e4 fun b o eb nb=>by rw [k4 b nb,k3 b nb,k2 b nb]; exact eb
  refine ⟨_,rfl,_,rfl,_,⟨v,u,_,_,S,rfl,av,au,rfl⟩,fun H6 s6=>⟨_,rfl,?_⟩⟩
  have D6:=D0.grow s6
  rcases av.same s6 with ⟨rfl,ei⟩ | ⟨am,m,f,rfl,ei,M,hn,hk,_⟩
  ·refine itY (by rw [ei]; rfl) ?_
   exact ⟨by show 1 ≤ sizeLine; decide,ret_same D6 (do_apart_ref e8 (.inl ei)) rfl k⟩
  rcases au.same s6 with ⟨rfl,ej⟩ | ⟨bm,o,g,rfl,ej,N,hn',hk',_⟩
  ·refine itY (by rw [ei,ej]; rfl) ?_
   exact ⟨by show 1 ≤ sizeLine; decide,ret_same D6 (do_apart_ref e8 (.inr (.inl ej))) rfl k⟩
  by_cases hkk:¬ m.k = o.k
  ·refine itY (by rw [ei,ej]; show (!decide (m.k = o.k)) = true; rw [decide_eq_false hkk]; rfl) ?_
   exact ⟨by show 1 ≤ sizeLine; decide,ret_same D6 (do_apart_ref e8 (.inr (.inr ⟨m,o,ei,ej,hkk⟩))) rfl k⟩
  have hkk:m.k = o.k:=Classical.byContradiction hkk
  refine itN (by rw [ei,ej]; show (!decide (m.k = o.k)) = false; rw [decide_eq_true hkk]; rfl) ?_
  refine ⟨_,rfl,_,rfl,am,bm,m,o,f,g,rfl,M,N,hkk,by omega,by omega,by omega,fun H7 s7 hap=>?_,fun H7 p w s7 hp hap=>?_⟩
  ·have D7:=D6.grow s7
   refine ⟨_,rfl,rfl,_,rfl,?_⟩
   refine itY rfl ?_
   exact ⟨by show 1 ≤ sizeLine; decide,ret_same D7 (do_apart e8 ei ej M.ok N.ok hkk hn hn' hk hap) rfl k⟩
  ·have D7:=D6.grow s7
   have hdo:=do_apart (r:=rm) e8 ei ej M.ok N.ok hkk hn hn' hk hap
   unfold apartAns at hdo
   simp only at hdo
   refine ⟨_,rfl,rfl,_,rfl,?_⟩
   refine itN rfl ?_
   refine (evt_test (ev_op0 (g:=fun i j=>V.bl (decide (j < i))) (i:=(w.length:Int)) (j:=((Rc64.roomOf rm:Nat):Int)) (Ev.eq (ev_len (K:=K) (p:=p) (eva_1 (ev_var rfl)) (SqL.of hp)) (by rw [nums_len])) (ev_call (evap_v (v:=.int rm) (ev_var rfl) evap_nil) fun vs H' s' h=>?_))) H7 (Same.refl H7) _ fun H8 s8=>?_
   ·obtain ⟨us,rfl,rfl⟩:=h
    exact ⟨rm,rfl,rfl⟩
   have D8:=D7.grow s8
   have hrl:=room_le' rm
   by_cases hbig:Rc64.roomOf rm < w.length
   ·refine itY (decide_eq_true (by omega)) ?_
    rw [if_pos hbig] at hdo
    exact ⟨by show 1 ≤ sizeLine; decide,ret_same D8 hdo rfl k⟩
   ·refine itN (decide_eq_false (by omega)) ?_
    rw [if_neg hbig] at hdo
    have hp8:=s8 _ _ hp
    refine st_retL (evl_catL (xs:=[.int (w.length:Int)]) (ys:=nums w) (evl_lst (eva_1 (Ev.eq (ev_len (K:=K) (p:=p) (eva_1 (ev_var rfl)) (SqL.of hp8)) (by rw [nums_len]))) (by show 1 ≤ sizeLine; omega)) (ev_var rfl) hp8 (by rw [nums_len]; show 1 + w.length ≤ sizeLine; omega)) (Same.refl H8) fun H9 l s9 hl0 hl=>?_
    have D9:=D8.grow s9
    have nS:∀ b,b ∈ rd :: S → l ≠ b:=fun b hb z=>by
     rcases List.mem_cons.1 hb with e | hb
     ·obtain ⟨dz,hz⟩:=D8.rdr.ins
      rw [z,e,hz] at hl0; cases hl0
     ·exact D8.plc.none b hb (z ▸ hl0)
    exact k H9 l os S _ _ D9 hdo (D8.mv.more l hl0) (fun z=>nS l z rfl) hl
theorem ok_least (T:Txt K mg t):FnOk P w K mg base CX0 23 t.f_least t.d_least ["places","reader"] (sp_call K t 8):=by
 refine T.F_least.ok sc_least (fun vs H Q E h=>?_) (fun cdv A outer s H vs Q E hr h=>?_)
 ·obtain ⟨pl,rd,a,ns,r,tl,pos,os,S,c,q,rfl,_⟩:=h
  rfl
 ·obtain ⟨pl,rd,a,ns,r,tl,pos,os,S,c,q,rfl,hP,hR,hrS,er,rr,ha,k⟩:=h
  obtain ⟨i,sl,rfl,rfl,rfl⟩:=rr.i8
  clear rr
  have e8:os.length = 8:=by obtain ⟨lm,us,fs,PA,_⟩:=hP; exact PA.len
  refine ⟨_,(pss_cons (ps_set (i:=2) sc_least.nd rfl (Or.inl rfl) (pe_meth (pv 0) T.cl_Places T.me_Places_machine_at (ok_Places_machine_at T) (hr.mono (by decide)) (T.F_Places_machine_at.binds b_Places_machine_at) .nil pass0 (pa_cons (pe_meth0 (pv 1) T.cl_Reader T.me_Reader_take (ok_Reader_take T) (hr.mono (by decide)) (T.F_Reader_take.binds b_Reader_take) .nil pass0 ) pa_nil)))
   (pss_cons (ps_set (i:=3) sc_least.nd rfl (Or.inl rfl) (pe_meth0 (pv 1) T.cl_Reader T.me_Reader_take (ok_Reader_take T) (hr.mono (by decide)) (T.F_Reader_take.binds b_Reader_take) .nil pass0 ))
   (pss_cons (ps_if (PW.pt (pw_or (pt_cmpR op_isN (pv 2) pe_non (nomark _)) (pw_or1 (pt_not (pt_truth (pe_call (ok_is_place T) (hr.mono (by decide)) rfl T.m_is_place T.F_is_place.kp (T.F_is_place.binds b_is_place) .nil pass0 (pa_cons (pv 3) pa_nil)) (fun _=>rfl)))))) (pss_one (ps_ret (pe_lst (pa_cons (pe_glob (v:=.int (-1)) rfl T.m_REFUSED ⟨_,rfl⟩) pa_nil)))) pss_nil)
   (pss_cons (ps_set (i:=4) sc_least.nd rfl (Or.inl rfl) (pe_call (ok_fewest T) (hr.mono (by decide)) rfl T.m_fewest T.F_fewest.kp (T.F_fewest.binds b_fewest) .nil pass0 (pa_cons (pv 2) pa_nil)))
   (pss_cons (ps_expr (pe_meth (pv 0) T.cl_Places T.me_Places_put (ok_Places_put T) (hr.mono (by decide)) (T.F_Places_put.binds b_Places_put) .nil pass0 (pa_cons (pv 3) (pa_cons (pv 4) pa_nil))))
   (pss_one (ps_ret (pe_lst (pa_cons (pe_fld (pv 4) rfl) pa_nil))))))))),?_⟩
  refine at_take rfl rfl hP hrS hR er fun H2 v P2 R2 k2 e2 av2=>?_
  refine take_ok rfl R2 e2 fun H4 R4 k4 e4=>?_
  have fS:∀ b,b ∈ S → b ≠ rd:=fun b hb z=>hrS (z ▸ hb)
  have av:AtV t H4 S v (atP os i):=av2.frame fun b hb=>by rw [k4 b (fS b hb)]
  have D0:=Done.start hP hrS R4 e4 fun b o eb nb=>by rw [k4 b nb,k2 b nb]; exact eb
  rcases av with ⟨rfl,ei⟩ | ⟨am,m,f,rfl,ei,M,hn,hk,_⟩
  ·refine ⟨_,rfl,rfl,_,rfl,?_⟩
   refine itY rfl ?_
   refine itY rfl ?_
   exact ⟨by show 1 ≤ sizeLine; decide,ret_same D0 (do_least_ref e8 (.inr ei)) rfl k⟩
  refine ⟨_,rfl,rfl,_,rfl,?_⟩
  refine itN rfl ?_
  refine ⟨_,rfl,sl,rfl,_,rfl,?_⟩
  by_cases hc2:¬ (0 ≤ sl ∧ sl < 8)
  ·refine itY (by rw [decide_eq_false hc2]; rfl) ?_
   exact ⟨by show 1 ≤ sizeLine; decide,ret_same D0 (do_least_ref e8 (.inl hc2)) rfl k⟩
  have hc2:0 ≤ sl ∧ sl < 8:=Classical.byContradiction hc2
  refine itN (by rw [decide_eq_true hc2]; rfl) ?_
  refine ⟨_,rfl,am,m,f,rfl,M,by omega,by omega,fun q hq hqn hqk H8 x S8 s8 M8 f8=>?_⟩
  exact put_ret (i:=3) (j:=4) T D0 rfl rfl rfl hc2 s8 M8 (by omega) (by omega) f8 (do_least e8 hc2 ei hq) k rfl
end
end Wp
namespace Wp
open PySem PySem.Spec PyProof.Rows L2
open PySem.W (Codec)
noncomputable def tCallV (X:Cx) (i:Nat) (t:TA):TE:=fun σ H Q=>∃ f,σ[i]? = some (some (.ref f)) ∧ PySem.W.keepIn X.K (.ref f) = true ∧ t σ H fun vs H1 =>
 ∃ (k:Nat) (fd:FuncData) (ps:List Str) (sp:Sp),FnOk X.prog X.w X.K X.mg X.base CX0 k f fd ps sp ∧ Room k X.A ∧ Binds X.K fd ps [] ∧ sp vs H1 Q E0
theorem pe_callV {X:Cx} {i:Nat} {x:Str} {p pos:Pos} {e:Expr} {es:List Expr} {t:TA} (ha:PA X (e :: es) t) (hN:X.N[i]? = some x:=by rfl) (hv:Vis X.env.scope x:=by first | exact Or.inl rfl | exact Or.inr (Or.inl rfl) | exact Or.inr (Or.inr rfl))
  (hd:(x == ("__debug__":Str)) = false:=by decide) (hcd:(x == ("__classdict__":Str)) = false:=by decide)
  (he:starEach (e :: es) X.env = (false,eval e X.env) :: starEach es X.env:=by rfl) (hpl:(backTo pos (starEach es X.env)).any (·.1) = false:=by rfl) :
  PE X (.Call (.Name x p) (e :: es) [] pos) (tCallV X i t):=by
 intro pins s σ H Q I h
 obtain ⟨f,e1,hk,h⟩:=h
 obtain ⟨m,hn,hl⟩:=I.loc
 obtain ⟨u,r,l⟩:=hl i x _ hN e1 hv
 obtain rfl:u = Value.ref f:=r
 refine wpAny_Call_Name_kw ?_
 have go:wpAny (model X.prog X.w) X.A (callWith pos (.ref f) [] (backTo pos (starEach (e :: es) X.env)) (backToKw pos (keywordEach [] X.env))) (EP X pins σ Q) X.xe s:=by
  refine PySem.W.callWith_K (h₀:=X.base) I.ok.mod.kin hk (thn (ha pos pins s σ H _ I h) fun us s1 ⟨vs,H1,I1,r,q⟩=>⟨I1.kIn,?_⟩) he hpl
  obtain ⟨k,fd,ps,sp,F,hr,hb,q⟩:=q
  exact run_fn (dvs:=[]) (ds:=[]) F hr hb .nil pass0 I1 r (by rw [List.append_nil]; exact q)
 rcases l with ⟨hk,hm⟩ | ⟨hk,c,hc,hcell⟩
 ·exact wpAny_Name (wpAny_loadName_local I.ok.kind hk hn hm go) hd
 ·rcases hk with hk | hk
  ·exact wpAny_Name (wpAny_loadName_cell I.ok.kind hk hc hcell go) hd
  ·exact wpAny_Name (wpAny_loadName_free I.ok.kind hk hc hcell go hcd) hd
noncomputable def AllCalls (P:Program) (w:World) (K:PySem.W.Frag) (mg:Str → Option Value) (base:Heap) (t:Adr) (tab:List V):Prop :=
 ∀ (p:Int) (r tl:List Int) (c:List (List Int)) (q:Rc64.Call),Wm.Reads p r tl c q → ∃ (j:Nat) (f:Addr) (k:Nat) (fd:FuncData),p = (j:Int) ∧ tab[j]? = some (.ref f) ∧ PySem.W.keepIn K (.ref f) = true ∧ k ≤ 30 ∧
  FnOk P w K mg base CX0 k f fd ["places","reader"] (sp_call K t p) ∧ Binds K fd ["places","reader"] []
theorem ansV_eq (a:Rc64.Ans):ansV a = (Wm.vals a).map V.int:=by
 unfold ansV Wm.vals
 rw [List.map_cons,List.map_map]
 rfl
section
variable {P:Program} {w:World} {K:PySem.W.Frag} {mg:Str → Option Value} {base:Heap} {t:Adr}
noncomputable def sp_answers_at (K:PySem.W.Frag) (t:Adr):Sp:=fun vs H Q _=>∃ (pl a:Addr) (ns:List Int) (S:List Addr),vs = [.ref pl,.ref a] ∧ Places t H pl empty8 S ∧ SqF K H a (ns.map V.int) ∧ ns.length ≤ 13000 ∧ PyRc64.answers_asked ns = true ∧
 ∀ (H':Hp) (l:Addr),H' l = some (.lst ((PyRc64.answers ns).map V.int)) → Q (.ref l) H'
structure Loop (K:PySem.W.Frag) (t:Adr) (H:Hp) (pl a rd an:Addr) (ns:List Int) (pos:Nat) (os:List (Option Wm.PM)) (S:List Addr) (cs:List (List (List Int))) (acc:List Int):Prop where
 plc:Places t H pl os S
 rdr:ReaderAt K t.c_Reader H rd a ns pos
 nr:rd ∉ S
 na:an ∉ rd :: S
 ans:H an = some (.lst (acc.map V.int))
 line:Wm.Line (ns.drop pos) cs
 ask:∀ c,c ∈ cs → Rc64Neutral.asked1 c = true
 rest:Wm.Rest ns (abs os) cs acc
 few:acc.length + cs.length * 65540 ≤ 60 * 65540
theorem ok_answers_at (T:Txt K mg t) (hall:AllCalls P w K mg base t [.ref t.f_begin,.ref t.f_new,.ref t.f_first,.ref t.f_last,.ref t.f_hand,.ref t.f_worth,.ref t.f_make,.ref t.f_apart,.ref t.f_least]):FnOk P w K mg base CX0 33 t.f_answers_at t.d_answers_at ["places","calls"] (sp_answers_at K t):=by
 refine T.F_answers_at.ok sc_answers_at (fun vs H Q E h=>?_) (fun cdv A outer s H vs Q E hr h=>?_)
 ·obtain ⟨pl,a,ns,S,rfl,_⟩:=h
  rfl
 ·obtain ⟨pl,a,ns,S,rfl,hP,hS,hlen,hask,k⟩:=h
  obtain ⟨cs,hcs,hline,hasked⟩:=Wm.line_calls hask
  have hrest:=Wm.Rest.start hcs hask
  have hsz:sizeLine = 16777216:=sizeLine_eq
  refine ⟨_,(pss_cons (ps_set (i:=2) sc_answers_at.nd rfl (Or.inl rfl) (pe_make T.mk_Reader (ok_Reader_init T) (hr.mono (by decide)) rfl T.m_Reader (T.F_Reader_init.binds b_Reader_init) .nil pass0 (pa_cons (pv 1) pa_nil)))
   (pss_cons (ps_set (i:=3) sc_answers_at.nd rfl (Or.inl rfl) (pe_lst pa_nil))
   (pss_cons (ps_while PassesOwn.never (pt_not (pt_truth (pe_meth0 (pv 2) T.cl_Reader T.me_Reader_at_end (ok_Reader_at_end T) (hr.mono (by decide)) (T.F_Reader_at_end.binds b_Reader_at_end) .nil pass0 ) (fun _=>rfl))) (pss_cons (ps_set (i:=4) sc_answers_at.nd rfl (Or.inl rfl) (pe_ix ix_tup (pe_glob (v:=.ref t.k_CALLS) rfl T.m_CALLS rfl) (pe_meth0 (pv 2) T.cl_Reader T.me_Reader_take (ok_Reader_take T) (hr.mono (by decide)) (T.F_Reader_take.binds b_Reader_take) .nil pass0 ) (fun _ _=>rfl)))
   (pss_cons (ps_set (i:=5) sc_answers_at.nd rfl (Or.inl rfl) (pe_callV (i:=4) (pa_cons (pv 0) (pa_cons (pv 2) pa_nil))))
   (pss_cons (ps_expr (pe_bm PySem.F.plainAttrs_list PySem.F.slot_list_append PySem.F.type_list_append mt_append (pv 3) (pa_cons (pe_callB call_len_seq (by rfl) T.b_len PySem.boot_len (pa_cons (pv 5) pa_nil)) pa_nil)))
   (pss_one (ps_expr (pe_bm PySem.F.plainAttrs_list PySem.F.slot_list_extend PySem.F.type_list_extend mt_extend (pv 3) (pa_cons (pv 5) pa_nil))))))))
   (pss_one (ps_ret (pv 3)))))),?_⟩
  refine ⟨_,rfl,fun rd dx hrd hdx hne=>⟨rd,dx,a,rfl,upd_same,fun H1 e1=>⟨rfl,?_⟩⟩⟩
  rw [upd_upd] at e1
  have hrd1:H1 rd = some (.ins t.c_Reader dx (rF a 0)):=by rw [e1,upd_same]
  have k1:Same H H1:=fun b o e=>by rw [e1,upd_ne (ne_of_none e hrd),upd_ne (ne_of_none e hdx)]; exact e
  have fr1:rd ∉ S:=fun z=>hP.none rd z hrd
  refine ⟨Nat.zero_le _,fun an han=>?_⟩
  have k2:Same H1 (upd H1 an (.lst [])):=upd_fresh (same_refl _) han
  have nan:an ∉ rd :: S:=fun z=>by
   rcases List.mem_cons.1 z with z | z
   ·rw [z,hrd1] at han; cases han
   ·exact (hP.frame fun b hb=>same_eq k1 (hP.none b hb)).none an z han
  have L0:Loop K t (upd H1 an (.lst [])) pl a rd an ns 0 empty8 S cs []:=by
   refine ⟨hP.frame fun b hb=>?_,⟨⟨dx,k2 _ _ hrd1⟩,hS.frame fun b o u e=>k2 _ _ (k1 _ _ e),Nat.zero_le _,hlen⟩,fr1,nan,upd_same,hline,?_,hrest,?_⟩
   ·have h1:H1 b = H b:=same_eq k1 (hP.none b hb)
    rw [← h1]
    exact same_eq k2 (by rw [h1]; exact hP.none b hb)
   ·intro c hc
    unfold Rc64Neutral.asked at hasked
    simp only [Bool.and_eq_true,List.all_eq_true] at hasked
    exact hasked.1 c hc
   ·unfold Rc64Neutral.asked at hasked
    simp only [Bool.and_eq_true,decide_eq_true_eq] at hasked
    have:=hasked.2.1
    show 0 + cs.length * 65540 ≤ 60 * 65540
    omega
  refine ⟨fun m σ H'=>∃ (pos:Nat) (os:List (Option Wm.PM)) (S:List Addr) (cs:List (List (List Int))) (acc:List Int) (v4 v5:Option V),m = ns.length - pos ∧ σ = [some (.ref pl),some (.ref a),some (.ref rd),some (.ref an),v4,v5] ∧ Loop K t H' pl a rd an ns pos os S cs acc,
   ⟨_,0,empty8,S,cs,[],none,none,rfl,rfl,L0⟩,?_⟩
  rintro m σ H2 ⟨pos,os,S2,cs2,acc,v4,v5,rfl,rfl,L⟩
  obtain ⟨dr,hri⟩:=L.rdr.ins
  refine ⟨_,rfl,rd,dr,_,rfl,hri,rF_no _ _ (by decide +kernel) (by decide +kernel),rd,a,ns,pos,rfl,L.rdr,_,rfl,?_⟩
  by_cases hend:pos = ns.length
  ·refine itN (by simp [hend]) ?_
   have hl:=L.line
   rw [hend,List.drop_length] at hl
   cases hl
   refine ⟨_,rfl,k H2 an ?_⟩
   rw [← L.rest.done]
   exact L.ans
  ·refine itY (by simp [hend]) ?_
   have hlt:pos < ns.length:=Nat.lt_of_le_of_ne L.rdr.le hend
   obtain ⟨x,r,exr⟩:∃ x r,ns.drop pos = x :: r:=⟨_,_,List.drop_eq_getElem_cons hlt⟩
   have hl:=L.line
   rw [exr] at hl
   cases hl with
   | @cons _ _ tl c q cs3 hreads hline3 =>
   obtain ⟨j,f,kf,fd,ej,htab,hkeep,hkf,F,B⟩:=hall x r tl c q hreads
   refine ⟨fun σ' H'=>∃ (pos':Nat) (os:List (Option Wm.PM)) (S:List Addr) (cs:List (List (List Int))) (acc:List Int) (v4 v5:Option V),pos < pos' ∧ σ' = [some (.ref pl),some (.ref a),some (.ref rd),some (.ref an),v4,v5] ∧ Loop K t H' pl a rd an ns pos' os S cs acc,
    fun σ' H' ⟨pos',os,S,cs,acc,v4,v5,hp,e,L'⟩=>⟨_,by have:=L'.rdr.le; omega,pos',os,S,cs,acc,v4,v5,rfl,e,L'⟩,?_⟩
   refine take_ok rfl L.rdr exr fun H3 R3 k3 e3=>?_
   refine ⟨t.k_CALLS,_,_,.ref f,rfl,rfl,T.v_CALLS H3,at_of ej htab,?_⟩
   refine ⟨f,rfl,hkeep,_,rfl,_,rfl,kf,fd,_,_,F,hr.mono (by omega),B,?_⟩
   have P3:=L.plc.read L.nr k3
   refine ⟨pl,rd,a,ns,r,tl,pos + 1,os,S2,c,q,rfl,P3,R3,L.nr,e3,hreads,L.ask c (List.mem_cons_self ..),fun H4 l os' S4 pos' an4 D4 hd hl0 hlS hl4=>?_⟩
   have hpp:pos < pos':=by
    have h1:=congrArg List.length D4.tll
    have h2:=congrArg List.length e3
    rw [List.length_drop] at h1 h2
    have hle:=D4.rdr.le
    have:tl.length ≤ r.length:=hreads.len
    omega
   have nan3:an ≠ rd:=fun z=>L.na (by simp [z])
   have nanS:an ∉ rd :: S2:=L.na
   have han3:H3 an = some (.lst (acc.map V.int)):=by rw [k3 an nan3]; exact L.ans
   have han4:H4 an = some (.lst (acc.map V.int)):=D4.mv.keep an _ han3 nanS
   have nanS4:an ∉ rd :: S4:=fun z=>by
    rcases D4.mv.new an z with y | y
    ·exact nanS y
    ·rw [han3] at y; cases y
   have hanl:l ≠ an:=fun z=>by rw [z,han3] at hl0; cases hl0
   have hbig:=Wm.doesR_len hd
   have hla:(ansV an4).length = an4.numbers.length + 1:=by unfold ansV; rw [List.length_cons,List.length_map]
   have hfew:=L.few
   rw [List.length_cons,Nat.succ_mul] at hfew
   refine ⟨_,rfl,.inl ⟨rfl,_,SqL.of han4⟩,_,rfl,l,_,rfl,.inl (SqL.of hl4),an,_,_,rfl,rfl,han4,by rw [List.length_map]; omega,?_⟩
   have hl5:upd H4 an (.lst (acc.map V.int ++ [.int (ansV an4).length])) l = some (.lst (ansV an4)):=by rw [upd_ne hanl]; exact hl4
   refine ⟨_,rfl,.inl ⟨rfl,_,SqL.of upd_same⟩,_,rfl,an,l,_,_,rfl,rfl,upd_same,hl5,by rw [List.length_append,List.length_map,hla]; show acc.length + 1 + _ ≤ _; omega,?_⟩
   rw [upd_upd]
   have e6:acc.map V.int ++ [V.int ((ansV an4).length:Int)] ++ ansV an4 = (acc ++ ((Wm.vals an4).length:Int) :: Wm.vals an4).map V.int:=by
    rw [ansV_eq,List.length_map,List.map_append,List.map_cons,List.append_assoc]
    rfl
   rw [e6]
   refine ⟨pos',os',S4,cs3,_,_,_,hpp,rfl,⟨D4.plc.frame fun b hb=>upd_ne fun z=>nanS4 (z ▸ List.mem_cons_of_mem _ hb),?_,D4.nr,nanS4,upd_same,?_,fun c' hc'=>L.ask c' (List.mem_cons_of_mem _ hc'),L.rest.step hreads.callOf hd,?_⟩⟩
   ·obtain ⟨d4,hi4⟩:=D4.rdr.ins
    exact ⟨⟨d4,by rw [upd_ne fun z=>nanS4 (by simp [z])]; exact hi4⟩,D4.rdr.seq.frame fun b o u e=>by rw [upd_ne (ne_of e han4 (by intro z; cases z))]; exact e,D4.rdr.le,D4.rdr.few⟩
   ·rw [D4.tll]; exact hline3
   ·rw [List.length_append,List.length_cons]
    have:(Wm.vals an4).length = an4.numbers.length + 1:=by unfold Wm.vals; rw [List.length_cons,List.length_map]
    omega
noncomputable def sp_answers (K:PySem.W.Frag):Sp:=fun vs H Q _=>∃ (a:Addr) (ns:List Int),vs = [.ref a] ∧ SqF K H a (ns.map V.int) ∧ ns.length ≤ 13000 ∧ PyRc64.answers_asked ns = true ∧
 ∀ (H':Hp) (l:Addr),H' l = some (.lst ((PyRc64.answers ns).map V.int)) → Q (.ref l) H'
theorem ok_answers (T:Txt K mg t) (ok_answers_at:Txt K mg t → FnOk P w K mg base CX0 33 t.f_answers_at t.d_answers_at ["places","calls"] (sp_answers_at K t)):FnOk P w K mg base CX0 34 t.f_answers t.d_answers ["calls"] (sp_answers K):=by
 refine T.F_answers.ok sc_answers (fun vs H Q E h=>?_) (fun cdv A outer s H vs Q E hr h=>?_)
 ·obtain ⟨a,ns,rfl,_⟩:=h
  rfl
 ·obtain ⟨a,ns,rfl,hS,hlen,hask,k⟩:=h
  refine ⟨_,(pss_one (ps_ret (pe_call (ok_answers_at T) (hr.mono (by decide)) rfl T.m_answers_at T.F_answers_at.kp (T.F_answers_at.binds b_answers_at) .nil pass0 (pa_cons (pe_make0 T.mk_Places (ok_Places_init T) (hr.mono (by decide)) rfl T.m_Places (T.F_Places_init.binds b_Places_init) .nil pass0 ) (pa_cons (pv 0) pa_nil))))),?_⟩
  intro pl dx hpl hdx hne
  refine ⟨pl,dx,[],rfl,upd_same,.inl rfl,fun H1 S1 P1 mv=>⟨rfl,?_⟩⟩
  refine ⟨_,rfl,pl,a,ns,S1,rfl,P1,hS.frame fun b o u e=>mv.keep b _ ?_ ?_,hlen,hask,k⟩
  ·rw [upd_ne (ne_of_none e hpl),upd_ne (ne_of_none e hdx)]; exact e
  ·intro z
   have:b = pl:=by simpa using z
   rw [this,hpl] at e; cases e
end
end Wp
namespace Wp
open PySem PySem.Spec PyProof.Rows L2
open PySem.W (Codec)
theorem txt_mk {K:PySem.W.Frag} {h:Heap} {mg:Str → Option Value} {C0 C1 C2 C3 C4 f0 f1 f2 f3 f4 f5 f6 f7 f8 f9 f10 f11 f12 f13 f14 f15 f16 f17 f18 f19 f20 f21 f22 f23 f24 f25 f26 f27 f28 f29 f30 f31 f32 f33 f34 f35 f36 f37 f38 f39 f40 f41 f42 f43 f44 f45 f46 f47 f48 f49 f50 f51 f52 f53 f54 f55 f56 f57 f58 f59 f60 f61 f62 f63 f64 f65 k14:Addr} {d0 d1 d2 d3 d4 d5 d6 d7 d8 d9 d10 d11 d12 d13 d14 d15 d16 d17 d18 d19 d20 d21 d22 d23 d24 d25 d26 d27 d28 d29 d30 d31 d32 d33 d34 d35 d36 d37 d38 d39 d40 d41 d42 d43 d44 d45 d46 d47 d48 d49 d50 d51 d52 d53 d54 d55 d56 d57 d58 d59 d60 d61 d62 d63 d64 d65:FuncData}
  {k0 k1 k2 k3 k4 k5 k6 k7 k8 k9 k10 k11 k12 k13:Tok}
  {od14:Option Addr} {nn14:Nat} {sl14:Array (Option Value)}
  (X:K.In h) (G:h.Ns mainGlobals mg)
  (A0:PySem.W.nsIn K mainGlobals "Machine" = some (some (.ref C0)))
  (A1:PySem.W.nsIn K mainGlobals "Places" = some (some (.ref C1)))
  (A2:PySem.W.nsIn K mainGlobals "Space" = some (some (.ref C2)))
  (A3:PySem.W.nsIn K mainGlobals "Reached" = some (some (.ref C3)))
  (A4:PySem.W.nsIn K mainGlobals "Reader" = some (some (.ref C4)))
  (a0:PySem.W.nsIn K mainGlobals "is_place" = some (some (.ref f0)))
  (a1:PySem.W.nsIn K mainGlobals "rows_of_zeros" = some (some (.ref f1)))
  (a5:PySem.W.nsIn K mainGlobals "machine_of_zeros" = some (some (.ref f5)))
  (a10:PySem.W.nsIn K mainGlobals "is_number" = some (some (.ref f10)))
  (a11:PySem.W.nsIn K mainGlobals "inverse" = some (some (.ref f11)))
  (a12:PySem.W.nsIn K mainGlobals "multiple" = some (some (.ref f12)))
  (a13:PySem.W.nsIn K mainGlobals "difference" = some (some (.ref f13)))
  (a14:PySem.W.nsIn K mainGlobals "sum_of_products" = some (some (.ref f14)))
  (a15:PySem.W.nsIn K mainGlobals "sum_of_multiples" = some (some (.ref f15)))
  (a16:PySem.W.nsIn K mainGlobals "place_of_first_number" = some (some (.ref f16)))
  (a21:PySem.W.nsIn K mainGlobals "is_word" = some (some (.ref f21)))
  (a22:PySem.W.nsIn K mainGlobals "handed_on" = some (some (.ref f22)))
  (a23:PySem.W.nsIn K mainGlobals "worth_of_held" = some (some (.ref f23)))
  (a24:PySem.W.nsIn K mainGlobals "worth_of" = some (some (.ref f24)))
  (a25:PySem.W.nsIn K mainGlobals "is_kind" = some (some (.ref f25)))
  (a26:PySem.W.nsIn K mainGlobals "states_made" = some (some (.ref f26)))
  (a27:PySem.W.nsIn K mainGlobals "side_by_side" = some (some (.ref f27)))
  (a28:PySem.W.nsIn K mainGlobals "added" = some (some (.ref f28)))
  (a29:PySem.W.nsIn K mainGlobals "products" = some (some (.ref f29)))
  (a30:PySem.W.nsIn K mainGlobals "products_of_rows" = some (some (.ref f30)))
  (a31:PySem.W.nsIn K mainGlobals "multiplied" = some (some (.ref f31)))
  (a32:PySem.W.nsIn K mainGlobals "bridge_between" = some (some (.ref f32)))
  (a33:PySem.W.nsIn K mainGlobals "one_behind_the_other" = some (some (.ref f33)))
  (a34:PySem.W.nsIn K mainGlobals "column" = some (some (.ref f34)))
  (a35:PySem.W.nsIn K mainGlobals "handed_back" = some (some (.ref f35)))
  (a36:PySem.W.nsIn K mainGlobals "turned" = some (some (.ref f36)))
  (a37:PySem.W.nsIn K mainGlobals "made_of_two" = some (some (.ref f37)))
  (a41:PySem.W.nsIn K mainGlobals "space_reached" = some (some (.ref f41)))
  (a42:PySem.W.nsIn K mainGlobals "first_word_worth_something" = some (some (.ref f42)))
  (a43:PySem.W.nsIn K mainGlobals "negative" = some (some (.ref f43)))
  (a44:PySem.W.nsIn K mainGlobals "first_word_apart" = some (some (.ref f44)))
  (a45:PySem.W.nsIn K mainGlobals "handed_within" = some (some (.ref f45)))
  (a46:PySem.W.nsIn K mainGlobals "only_reached" = some (some (.ref f46)))
  (a47:PySem.W.nsIn K mainGlobals "fewest" = some (some (.ref f47)))
  (a52:PySem.W.nsIn K mainGlobals "begin" = some (some (.ref f52)))
  (a53:PySem.W.nsIn K mainGlobals "new" = some (some (.ref f53)))
  (a54:PySem.W.nsIn K mainGlobals "machine_that_takes" = some (some (.ref f54)))
  (a55:PySem.W.nsIn K mainGlobals "first" = some (some (.ref f55)))
  (a56:PySem.W.nsIn K mainGlobals "last" = some (some (.ref f56)))
  (a57:PySem.W.nsIn K mainGlobals "hand" = some (some (.ref f57)))
  (a58:PySem.W.nsIn K mainGlobals "worth" = some (some (.ref f58)))
  (a59:PySem.W.nsIn K mainGlobals "are_comparable" = some (some (.ref f59)))
  (a60:PySem.W.nsIn K mainGlobals "make" = some (some (.ref f60)))
  (a61:PySem.W.nsIn K mainGlobals "most_letters_in" = some (some (.ref f61)))
  (a62:PySem.W.nsIn K mainGlobals "apart" = some (some (.ref f62)))
  (a63:PySem.W.nsIn K mainGlobals "least" = some (some (.ref f63)))
  (a64:PySem.W.nsIn K mainGlobals "answers_at" = some (some (.ref f64)))
  (a65:PySem.W.nsIn K mainGlobals "answers" = some (some (.ref f65)))
  (M0:Mk K C0 f2)
  (L0:Cls K C0)
  (M1:Mk K C1 f6)
  (L1:Cls K C1)
  (M2:Mk K C2 f17)
  (L2:Cls K C2)
  (M3:Mk K C3 f38)
  (L3:Cls K C3)
  (M4:Mk K C4 f48)
  (L4:Cls K C4)
  (m3:Meth K C0 "has_state" f3)
  (m4:Meth K C0 "has_letter" f4)
  (m7:Meth K C1 "make_empty" f7)
  (m8:Meth K C1 "machine_at" f8)
  (m9:Meth K C1 "put" f9)
  (m18:Meth K C2 "factors" f18)
  (m19:Meth K C2 "rest" f19)
  (m20:Meth K C2 "grows_by" f20)
  (m39:Meth K C3 "look_at" f39)
  (m40:Meth K C3 "go_on_from" f40)
  (m49:Meth K C4 "at_end" f49)
  (m50:Meth K C4 "take" f50)
  (m51:Meth K C4 "take_row" f51)
  (h0:Fun K "is_place" "is_place" st_is_place f0 d0)
  (h1:Fun K "rows_of_zeros" "rows_of_zeros" st_rows_of_zeros f1 d1)
  (h2:Fun K "__init__" "Machine.__init__" st_Machine_init f2 d2)
  (h3:Fun K "has_state" "Machine.has_state" st_Machine_has_state f3 d3)
  (h4:Fun K "has_letter" "Machine.has_letter" st_Machine_has_letter f4 d4)
  (h5:Fun K "machine_of_zeros" "machine_of_zeros" st_machine_of_zeros f5 d5)
  (h6:Fun K "__init__" "Places.__init__" st_Places_init f6 d6)
  (h7:Fun K "make_empty" "Places.make_empty" st_Places_make_empty f7 d7)
  (h8:Fun K "machine_at" "Places.machine_at" st_Places_machine_at f8 d8)
  (h9:Fun K "put" "Places.put" st_Places_put f9 d9)
  (h10:Fun K "is_number" "is_number" st_is_number f10 d10)
  (h11:Fun K "inverse" "inverse" st_inverse f11 d11)
  (h12:Fun K "multiple" "multiple" st_multiple f12 d12)
  (h13:Fun K "difference" "difference" st_difference f13 d13)
  (h14:Fun K "sum_of_products" "sum_of_products" st_sum_of_products f14 d14)
  (h15:Fun K "sum_of_multiples" "sum_of_multiples" st_sum_of_multiples f15 d15)
  (h16:Fun K "place_of_first_number" "place_of_first_number" st_place_of_first_number f16 d16)
  (h17:Fun K "__init__" "Space.__init__" st_Space_init f17 d17)
  (h18:Fun K "factors" "Space.factors" st_Space_factors f18 d18)
  (h19:Fun K "rest" "Space.rest" st_Space_rest f19 d19)
  (h20:Fun K "grows_by" "Space.grows_by" st_Space_grows_by f20 d20)
  (h21:Fun K "is_word" "is_word" st_is_word f21 d21)
  (h22:Fun K "handed_on" "handed_on" st_handed_on f22 d22)
  (h23:Fun K "worth_of_held" "worth_of_held" st_worth_of_held f23 d23)
  (h24:Fun K "worth_of" "worth_of" st_worth_of f24 d24)
  (h25:Fun K "is_kind" "is_kind" st_is_kind f25 d25)
  (h26:Fun K "states_made" "states_made" st_states_made f26 d26)
  (h27:Fun K "side_by_side" "side_by_side" st_side_by_side f27 d27)
  (h28:Fun K "added" "added" st_added f28 d28)
  (h29:Fun K "products" "products" st_products f29 d29)
  (h30:Fun K "products_of_rows" "products_of_rows" st_products_of_rows f30 d30)
  (h31:Fun K "multiplied" "multiplied" st_multiplied f31 d31)
  (h32:Fun K "bridge_between" "bridge_between" st_bridge_between f32 d32)
  (h33:Fun K "one_behind_the_other" "one_behind_the_other" st_one_behind_the_other f33 d33)
  (h34:Fun K "column" "column" st_column f34 d34)
  (h35:Fun K "handed_back" "handed_back" st_handed_back f35 d35)
  (h36:Fun K "turned" "turned" st_turned f36 d36)
  (h37:Fun K "made_of_two" "made_of_two" st_made_of_two f37 d37)
  (h38:Fun K "__init__" "Reached.__init__" st_Reached_init f38 d38)
  (h39:Fun K "look_at" "Reached.look_at" st_Reached_look_at f39 d39)
  (h40:Fun K "go_on_from" "Reached.go_on_from" st_Reached_go_on_from f40 d40)
  (h41:Fun K "space_reached" "space_reached" st_space_reached f41 d41)
  (h42:Fun K "first_word_worth_something" "first_word_worth_something" st_first_word_worth_something f42 d42)
  (h43:Fun K "negative" "negative" st_negative f43 d43)
  (h44:Fun K "first_word_apart" "first_word_apart" st_first_word_apart f44 d44)
  (h45:Fun K "handed_within" "handed_within" st_handed_within f45 d45)
  (h46:Fun K "only_reached" "only_reached" st_only_reached f46 d46)
  (h47:Fun K "fewest" "fewest" st_fewest f47 d47)
  (h48:Fun K "__init__" "Reader.__init__" st_Reader_init f48 d48)
  (h49:Fun K "at_end" "Reader.at_end" st_Reader_at_end f49 d49)
  (h50:Fun K "take" "Reader.take" st_Reader_take f50 d50)
  (h51:Fun K "take_row" "Reader.take_row" st_Reader_take_row f51 d51)
  (h52:Fun K "begin" "begin" st_begin f52 d52)
  (h53:Fun K "new" "new" st_new f53 d53)
  (h54:Fun K "machine_that_takes" "machine_that_takes" st_machine_that_takes f54 d54)
  (h55:Fun K "first" "first" st_first f55 d55)
  (h56:Fun K "last" "last" st_last f56 d56)
  (h57:Fun K "hand" "hand" st_hand f57 d57)
  (h58:Fun K "worth" "worth" st_worth f58 d58)
  (h59:Fun K "are_comparable" "are_comparable" st_are_comparable f59 d59)
  (h60:Fun K "make" "make" st_make f60 d60)
  (h61:Fun K "most_letters_in" "most_letters_in" st_most_letters_in f61 d61)
  (h62:Fun K "apart" "apart" st_apart f62 d62)
  (h63:Fun K "least" "least" st_least f63 d63)
  (h64:Fun K "answers_at" "answers_at" st_answers_at f64 d64)
  (h65:Fun K "answers" "answers" st_answers f65 d65)
  (n0_0:PySem.W.findIn K (.ref C0) "states" = some none)
  (n0_1:PySem.W.findIn K (.ref C0) "letters" = some none)
  (n0_2:PySem.W.findIn K (.ref C0) "firsts" = some none)
  (n0_3:PySem.W.findIn K (.ref C0) "lasts" = some none)
  (n0_4:PySem.W.findIn K (.ref C0) "hands" = some none)
  (n1_0:PySem.W.findIn K (.ref C1) "machines" = some none)
  (n2_0:PySem.W.findIn K (.ref C2) "rows" = some none)
  (n2_1:PySem.W.findIn K (.ref C2) "pivots" = some none)
  (n3_0:PySem.W.findIn K (.ref C3) "machine" = some none)
  (n3_1:PySem.W.findIn K (.ref C3) "space" = some none)
  (n3_2:PySem.W.findIn K (.ref C3) "words" = some none)
  (n3_3:PySem.W.findIn K (.ref C3) "held" = some none)
  (n4_0:PySem.W.findIn K (.ref C4) "calls" = some none)
  (n4_1:PySem.W.findIn K (.ref C4) "position" = some none)
  (g0:PySem.W.nsIn K mainGlobals "PLACES" = some (some (.int (8) k0)))
  (g1:PySem.W.nsIn K mainGlobals "P" = some (some (.int (2147483647) k1)))
  (g2:PySem.W.nsIn K mainGlobals "MOST_NUMBERS" = some (some (.int (65536) k2)))
  (g3:PySem.W.nsIn K mainGlobals "ADDED" = some (some (.int (0) k3)))
  (g4:PySem.W.nsIn K mainGlobals "MULTIPLIED" = some (some (.int (1) k4)))
  (g5:PySem.W.nsIn K mainGlobals "BEHIND" = some (some (.int (2) k5)))
  (g6:PySem.W.nsIn K mainGlobals "TURNED" = some (some (.int (3) k6)))
  (g7:PySem.W.nsIn K mainGlobals "MOST_STATES" = some (some (.int (32) k7)))
  (g8:PySem.W.nsIn K mainGlobals "MOST_LETTERS" = some (some (.int (4) k8)))
  (g9:PySem.W.nsIn K mainGlobals "MOST_ROOM" = some (some (.int (65536) k9)))
  (g10:PySem.W.nsIn K mainGlobals "DONE" = some (some (.int (0) k10)))
  (g11:PySem.W.nsIn K mainGlobals "REFUSED" = some (some (.int (-1) k11)))
  (g12:PySem.W.nsIn K mainGlobals "TOO_MANY" = some (some (.int (-2) k12)))
  (g13:PySem.W.nsIn K mainGlobals "THE_SAME" = some (some (.int (-3) k13)))
  (g14:PySem.W.nsIn K mainGlobals "CALLS" = some (some (.ref k14)))
  (v14:K.lookup k14 = some ⟨.type "tuple",od14,.seq #[.ref f52,.ref f53,.ref f55,.ref f56,.ref f57,.ref f58,.ref f60,.ref f62,.ref f63] nn14,sl14⟩)
  (b_len:PySem.W.nsIn K mainGlobals "len" = some none)
  (b_range:PySem.W.nsIn K mainGlobals "range" = some none)
  (b_zip:PySem.W.nsIn K mainGlobals "zip" = some none)
  (b_enumerate:PySem.W.nsIn K mainGlobals "enumerate" = some none)
  (b_list:PySem.W.nsIn K mainGlobals "list" = some none)
  (b_sum:PySem.W.nsIn K mainGlobals "sum" = some none)
  (b_all:PySem.W.nsIn K mainGlobals "all" = some none):∃ t:Adr,Txt K mg t ∧ mg "answers" = some (.ref t.f_answers):=by
 have ns:∀ {n:Str} {v:Value},PySem.W.nsIn K mainGlobals n = some (some v) → mg n = some v:=fun a=>PySem.W.mg_of X G a
 refine ⟨{ c_Machine:=C0,c_Places:=C1,c_Space:=C2,c_Reached:=C3,c_Reader:=C4,f_is_place:=f0,d_is_place:=d0,f_rows_of_zeros:=f1,d_rows_of_zeros:=d1,f_Machine_init:=f2,d_Machine_init:=d2,f_Machine_has_state:=f3,d_Machine_has_state:=d3,f_Machine_has_letter:=f4,d_Machine_has_letter:=d4,f_machine_of_zeros:=f5,d_machine_of_zeros:=d5,f_Places_init:=f6,d_Places_init:=d6,f_Places_make_empty:=f7,d_Places_make_empty:=d7,f_Places_machine_at:=f8,d_Places_machine_at:=d8,f_Places_put:=f9,d_Places_put:=d9,f_is_number:=f10,d_is_number:=d10,f_inverse:=f11,d_inverse:=d11,f_multiple:=f12,d_multiple:=d12,f_difference:=f13,d_difference:=d13,f_sum_of_products:=f14,d_sum_of_products:=d14,f_sum_of_multiples:=f15,d_sum_of_multiples:=d15,f_place_of_first_number:=f16,d_place_of_first_number:=d16,f_Space_init:=f17,d_Space_init:=d17,f_Space_factors:=f18,d_Space_factors:=d18,f_Space_rest:=f19,d_Space_rest:=d19,f_Space_grows_by:=f20,d_Space_grows_by:=d20,f_is_word:=f21,d_is_word:=d21,f_handed_on:=f22,d_handed_on:=d22,f_worth_of_held:=f23,d_worth_of_held:=d23,f_worth_of:=f24,d_worth_of:=d24,f_is_kind:=f25,d_is_kind:=d25,f_states_made:=f26,d_states_made:=d26,f_side_by_side:=f27,d_side_by_side:=d27,f_added:=f28,d_added:=d28,f_products:=f29,d_products:=d29,f_products_of_rows:=f30,d_products_of_rows:=d30,f_multiplied:=f31,d_multiplied:=d31,f_bridge_between:=f32,d_bridge_between:=d32,f_one_behind_the_other:=f33,d_one_behind_the_other:=d33,f_column:=f34,d_column:=d34,f_handed_back:=f35,d_handed_back:=d35,f_turned:=f36,d_turned:=d36,f_made_of_two:=f37,d_made_of_two:=d37,f_Reached_init:=f38,d_Reached_init:=d38,f_Reached_look_at:=f39,d_Reached_look_at:=d39,f_Reached_go_on_from:=f40,d_Reached_go_on_from:=d40,f_space_reached:=f41,d_space_reached:=d41,f_first_word_worth_something:=f42,d_first_word_worth_something:=d42,f_negative:=f43,d_negative:=d43,f_first_word_apart:=f44,d_first_word_apart:=d44,f_handed_within:=f45,d_handed_within:=d45,f_only_reached:=f46,d_only_reached:=d46,f_fewest:=f47,d_fewest:=d47,f_Reader_init:=f48,d_Reader_init:=d48,f_Reader_at_end:=f49,d_Reader_at_end:=d49,f_Reader_take:=f50,d_Reader_take:=d50,f_Reader_take_row:=f51,d_Reader_take_row:=d51,f_begin:=f52,d_begin:=d52,f_new:=f53,d_new:=d53,f_machine_that_takes:=f54,d_machine_that_takes:=d54,f_first:=f55,d_first:=d55,f_last:=f56,d_last:=d56,f_hand:=f57,d_hand:=d57,f_worth:=f58,d_worth:=d58,f_are_comparable:=f59,d_are_comparable:=d59,f_make:=f60,d_make:=d60,f_most_letters_in:=f61,d_most_letters_in:=d61,f_apart:=f62,d_apart:=d62,f_least:=f63,d_least:=d63,f_answers_at:=f64,d_answers_at:=d64,f_answers:=f65,d_answers:=d65,k_PLACES:=k0,k_P:=k1,k_MOST_NUMBERS:=k2,k_ADDED:=k3,k_MULTIPLIED:=k4,k_BEHIND:=k5,k_TURNED:=k6,k_MOST_STATES:=k7,k_MOST_LETTERS:=k8,k_MOST_ROOM:=k9,k_DONE:=k10,k_REFUSED:=k11,k_TOO_MANY:=k12,k_THE_SAME:=k13,k_CALLS:=k14 },?_,ns a65⟩
 exact { cl_Machine:=L0,m_Machine:=ns A0,mk_Machine:=M0,na_Machine_states:=n0_0,na_Machine_letters:=n0_1,na_Machine_firsts:=n0_2,na_Machine_lasts:=n0_3,na_Machine_hands:=n0_4,cl_Places:=L1,m_Places:=ns A1,mk_Places:=M1,na_Places_machines:=n1_0,cl_Space:=L2,m_Space:=ns A2,mk_Space:=M2,na_Space_rows:=n2_0,na_Space_pivots:=n2_1,cl_Reached:=L3,m_Reached:=ns A3,mk_Reached:=M3,na_Reached_machine:=n3_0,na_Reached_space:=n3_1,na_Reached_words:=n3_2,na_Reached_held:=n3_3,cl_Reader:=L4,m_Reader:=ns A4,mk_Reader:=M4,na_Reader_calls:=n4_0,na_Reader_position:=n4_1,F_is_place:=h0,m_is_place:=ns a0,F_rows_of_zeros:=h1,m_rows_of_zeros:=ns a1,F_Machine_init:=h2,F_Machine_has_state:=h3,me_Machine_has_state:=m3,F_Machine_has_letter:=h4,me_Machine_has_letter:=m4,F_machine_of_zeros:=h5,m_machine_of_zeros:=ns a5,F_Places_init:=h6,F_Places_make_empty:=h7,me_Places_make_empty:=m7,F_Places_machine_at:=h8,me_Places_machine_at:=m8,F_Places_put:=h9,me_Places_put:=m9,F_is_number:=h10,m_is_number:=ns a10,F_inverse:=h11,m_inverse:=ns a11,F_multiple:=h12,m_multiple:=ns a12,F_difference:=h13,m_difference:=ns a13,F_sum_of_products:=h14,m_sum_of_products:=ns a14,F_sum_of_multiples:=h15,m_sum_of_multiples:=ns a15,F_place_of_first_number:=h16,m_place_of_first_number:=ns a16,F_Space_init:=h17,F_Space_factors:=h18,me_Space_factors:=m18,F_Space_rest:=h19,me_Space_rest:=m19,F_Space_grows_by:=h20,me_Space_grows_by:=m20,F_is_word:=h21,m_is_word:=ns a21,F_handed_on:=h22,m_handed_on:=ns a22,F_worth_of_held:=h23,m_worth_of_held:=ns a23,F_worth_of:=h24,m_worth_of:=ns a24,F_is_kind:=h25,m_is_kind:=ns a25,F_states_made:=h26,m_states_made:=ns a26,F_side_by_side:=h27,m_side_by_side:=ns a27,F_added:=h28,m_added:=ns a28,F_products:=h29,m_products:=ns a29,F_products_of_rows:=h30,m_products_of_rows:=ns a30,F_multiplied:=h31,m_multiplied:=ns a31,F_bridge_between:=h32,m_bridge_between:=ns a32,F_one_behind_the_other:=h33,m_one_behind_the_other:=ns a33,F_column:=h34,m_column:=ns a34,F_handed_back:=h35,m_handed_back:=ns a35,F_turned:=h36,m_turned:=ns a36,F_made_of_two:=h37,m_made_of_two:=ns a37,F_Reached_init:=h38,F_Reached_look_at:=h39,me_Reached_look_at:=m39,F_Reached_go_on_from:=h40,me_Reached_go_on_from:=m40,F_space_reached:=h41,m_space_reached:=ns a41,F_first_word_worth_something:=h42,m_first_word_worth_something:=ns a42,F_negative:=h43,m_negative:=ns a43,F_first_word_apart:=h44,m_first_word_apart:=ns a44,F_handed_within:=h45,m_handed_within:=ns a45,F_only_reached:=h46,m_only_reached:=ns a46,F_fewest:=h47,m_fewest:=ns a47,F_Reader_init:=h48,F_Reader_at_end:=h49,me_Reader_at_end:=m49,F_Reader_take:=h50,me_Reader_take:=m50,F_Reader_take_row:=h51,me_Reader_take_row:=m51,F_begin:=h52,m_begin:=ns a52,F_new:=h53,m_new:=ns a53,F_machine_that_takes:=h54,m_machine_that_takes:=ns a54,F_first:=h55,m_first:=ns a55,F_last:=h56,m_last:=ns a56,F_hand:=h57,m_hand:=ns a57,F_worth:=h58,m_worth:=ns a58,F_are_comparable:=h59,m_are_comparable:=ns a59,F_make:=h60,m_make:=ns a60,F_most_letters_in:=h61,m_most_letters_in:=ns a61,F_apart:=h62,m_apart:=ns a62,F_least:=h63,m_least:=ns a63,F_answers_at:=h64,m_answers_at:=ns a64,F_answers:=h65,m_answers:=ns a65,m_PLACES:=ns g0,m_P:=ns g1,m_MOST_NUMBERS:=ns g2,m_ADDED:=ns g3,m_MULTIPLIED:=ns g4,m_BEHIND:=ns g5,m_TURNED:=ns g6,m_MOST_STATES:=ns g7,m_MOST_LETTERS:=ns g8,m_MOST_ROOM:=ns g9,m_DONE:=ns g10,m_REFUSED:=ns g11,m_TOO_MANY:=ns g12,m_THE_SAME:=ns g13,m_CALLS:=ns g14,v_CALLS:=fun H=>.inr ⟨_,_,_,v14,rfl,rfl,by show 9 ≤ sizeLine; decide,(.cons rfl (.cons rfl (.cons rfl (.cons rfl (.cons rfl (.cons rfl (.cons rfl (.cons rfl (.cons rfl .nil)))))))))⟩,b_len:=PySem.W.mg_none_of X G b_len,b_range:=PySem.W.mg_none_of X G b_range,b_zip:=PySem.W.mg_none_of X G b_zip,b_enumerate:=PySem.W.mg_none_of X G b_enumerate,b_list:=PySem.W.mg_none_of X G b_list,b_sum:=PySem.W.mg_none_of X G b_sum,b_all:=PySem.W.mg_none_of X G b_all }
end Wp
namespace Wp
open PySem PySem.Spec PyProof.Rows L2
theorem sqf_of {K:PySem.W.Frag} {H:Hp} {a:Addr} {xs:List V} (hO:OnlyF H) (h:SqL K H a xs):SqF K H a xs:=by
 rcases h with (h | ⟨o,h⟩) | h
 ·rcases hO a with z | ⟨o,u,z⟩
  ·rw [h] at z; cases z
  ·rw [h] at z; cases z
 ·exact .inl ⟨o,h⟩
 ·exact .inr h
theorem all_calls {P:Program} {w:World} {K:PySem.W.Frag} {mg:Str → Option Value} {base:Heap} {t:Adr} (T:Txt K mg t):AllCalls P w K mg base t [.ref t.f_begin,.ref t.f_new,.ref t.f_first,.ref t.f_last,.ref t.f_hand,.ref t.f_worth,.ref t.f_make,.ref t.f_apart,.ref t.f_least]:=by
 intro p r tl c q h
 cases h with
 | init=>exact ⟨0,_,_,_,rfl,rfl,T.F_begin.kp,by decide,ok_begin T,T.F_begin.binds b_begin⟩
 | new=>exact ⟨1,_,_,_,rfl,rfl,T.F_new.kp,by decide,ok_new T,T.F_new.binds b_new⟩
 | first=>exact ⟨2,_,_,_,rfl,rfl,T.F_first.kp,by decide,ok_first T,T.F_first.binds b_first⟩
 | last=>exact ⟨3,_,_,_,rfl,rfl,T.F_last.kp,by decide,ok_last T,T.F_last.binds b_last⟩
 | hand=>exact ⟨4,_,_,_,rfl,rfl,T.F_hand.kp,by decide,ok_hand T,T.F_hand.binds b_hand⟩
 | worth=>exact ⟨5,_,_,_,rfl,rfl,T.F_worth.kp,by decide,ok_worth T,T.F_worth.binds b_worth⟩
 | make=>exact ⟨6,_,_,_,rfl,rfl,T.F_make.kp,by decide,ok_make T,T.F_make.binds b_make⟩
 | apart=>exact ⟨7,_,_,_,rfl,rfl,T.F_apart.kp,by decide,ok_apart T,T.F_apart.binds b_apart⟩
 | least=>exact ⟨8,_,_,_,rfl,rfl,T.F_least.kp,by decide,ok_least T,T.F_least.binds b_least⟩
end Wp
namespace PySem.W.Fast
theorem tw2896380547076140064:True:=trivial
theorem tw14263898411705420864:True:=trivial
theorem tw2372636328138594432:True:=trivial
theorem tw6985252254542319776:True:=trivial
theorem tw8536529356271859904:True:=trivial
theorem tw15294305591716874464:True:=trivial
theorem tw17372628137062004032:True:=trivial
theorem tw8636309381578968480:True:=trivial
theorem tw134739207147458048:True:=trivial
theorem tw14156395799157549664:True:=trivial
theorem tw5706389078984776352:True:=trivial
theorem tw1945045109291484928:True:=trivial
theorem tw13654251921486719776:True:=trivial
theorem tw16701704241296943936:True:=trivial
theorem tw18150297353918091104:True:=trivial
theorem tw15781421417927322464:True:=trivial
theorem tw13031364330731243424:True:=trivial
theorem tw11460523082458092512:True:=trivial
theorem tw1247420657057274913:True:=trivial
theorem tw3419409063931359361:True:=trivial
theorem tw17461851418284332225:True:=trivial
theorem tw6754915936043689185:True:=trivial
theorem tw12178727494516307329:True:=trivial
theorem tw2904000733795974561:True:=trivial
theorem tw11824255169978793377:True:=trivial
theorem tw13890018906668490209:True:=trivial
theorem tw5578444548746777217:True:=trivial
theorem tw7951564220007464609:True:=trivial
theorem tw11527814389082574497:True:=trivial
theorem tw13968144987697353601:True:=trivial
theorem tw5436020283390649217:True:=trivial
theorem tw9861049263065494433:True:=trivial
theorem tw4295623916917564385:True:=trivial
theorem tw10593136504754085954:True:=trivial
theorem tw3640418635668567138:True:=trivial
theorem tw14069009659643921602:True:=trivial
theorem tw2445379699562197282:True:=trivial
theorem tw15997826908762748226:True:=trivial
theorem tw17319453595723470274:True:=trivial
theorem tw16840016235899029026:True:=trivial
theorem tw13083230983514523202:True:=trivial
theorem tw10506770537663460930:True:=trivial
theorem tw7165041602871890530:True:=trivial
theorem tw13625886207536370274:True:=trivial
theorem tw16415469595020405698:True:=trivial
theorem tw13285477267622578211:True:=trivial
theorem tw18334854714060288099:True:=trivial
theorem tw15116423421318526115:True:=trivial
theorem tw17905108703144560803:True:=trivial
theorem tw4407624257760786947:True:=trivial
theorem tw762203368094868067:True:=trivial
theorem tw14358860369484854883:True:=trivial
theorem tw15234668152123960963:True:=trivial
theorem tw11063417819262974659:True:=trivial
theorem tw17164691909202113283:True:=trivial
theorem tw9568926931391541027:True:=trivial
theorem tw1608167175026573091:True:=trivial
theorem tw9146194249659504451:True:=trivial
theorem tw5728559156555997059:True:=trivial
theorem tw17133709841754287075:True:=trivial
theorem tw17233321394184262724:True:=trivial
theorem tw1707038667880208516:True:=trivial
theorem tw7586004612722773284:True:=trivial
theorem tw12286073426013924676:True:=trivial
theorem tw16634578700146432388:True:=trivial
theorem tw12358647231036314084:True:=trivial
theorem tw4372900006233730628:True:=trivial
theorem tw4140698018220912260:True:=trivial
theorem tw17366160075574752996:True:=trivial
theorem tw650899528074997476:True:=trivial
theorem tw2531309801725806404:True:=trivial
theorem tw14243289578738853893:True:=trivial
theorem tw9113678261449931813:True:=trivial
theorem tw2196673258943682629:True:=trivial
theorem tw16891375048931829829:True:=trivial
theorem tw495174105334995077:True:=trivial
theorem tw8030673143798956165:True:=trivial
theorem tw16129293296814101669:True:=trivial
theorem tw11697453754697313733:True:=trivial
theorem tw17905589641263353285:True:=trivial
theorem tw13848535141697263109:True:=trivial
theorem tw1079435420626434597:True:=trivial
theorem tw13219181379860218437:True:=trivial
theorem tw16845235680744184902:True:=trivial
theorem tw9062744326089074790:True:=trivial
theorem tw10005313550090343782:True:=trivial
theorem tw2077607699078014342:True:=trivial
theorem tw9634926096846873030:True:=trivial
theorem tw5012692974983791142:True:=trivial
theorem tw16021760108274679398:True:=trivial
theorem tw3424339431949773510:True:=trivial
theorem tw16070493389382267975:True:=trivial
theorem tw17876108400258971751:True:=trivial
theorem tw13471882019291690119:True:=trivial
theorem tw1645505959204590855:True:=trivial
theorem tw12717034868293058887:True:=trivial
theorem tw11160369563299738023:True:=trivial
theorem tw12272159626204194247:True:=trivial
theorem tw7083363801453957671:True:=trivial
theorem tw7415160109121782407:True:=trivial
theorem tw12501379536341809127:True:=trivial
theorem tw14637439223356905480:True:=trivial
theorem tw11861154442148981800:True:=trivial
theorem tw15993086630535882824:True:=trivial
theorem tw8631699521370171528:True:=trivial
theorem tw11192785901143675112:True:=trivial
theorem tw5269991586078984616:True:=trivial
theorem tw5145857465181548968:True:=trivial
theorem tw16978388553758150120:True:=trivial
theorem tw10655427705593969160:True:=trivial
theorem tw9112782280302923432:True:=trivial
theorem tw14167546846035533480:True:=trivial
theorem tw6132177150091470568:True:=trivial
theorem tw11226048412222284584:True:=trivial
theorem tw15521962249917152104:True:=trivial
theorem tw7988070912422212488:True:=trivial
theorem tw6778986349002854280:True:=trivial
theorem tw12058729781740454985:True:=trivial
theorem tw7413989126060096585:True:=trivial
theorem tw17262872103402215529:True:=trivial
theorem tw11727533545129209993:True:=trivial
theorem tw2984947055264548009:True:=trivial
theorem tw15454203275612939497:True:=trivial
theorem tw5203693253123931401:True:=trivial
theorem tw10867186336709644585:True:=trivial
theorem tw3085236324160507241:True:=trivial
theorem tw8400042360850750889:True:=trivial
theorem tw10255071902213137865:True:=trivial
theorem tw8848708514464778697:True:=trivial
theorem tw9022149883657254537:True:=trivial
theorem tw5699454151714497193:True:=trivial
theorem tw1050471132736313033:True:=trivial
theorem tw6135658743029132009:True:=trivial
theorem tw6065528528501455625:True:=trivial
theorem tw15838925269478379497:True:=trivial
theorem tw824868420974213097:True:=trivial
theorem tw12409912567152434506:True:=trivial
theorem tw6097170393873504650:True:=trivial
theorem tw3212878542393080234:True:=trivial
theorem tw2658452443735908810:True:=trivial
theorem tw12844539761554624010:True:=trivial
theorem tw9928292322136472138:True:=trivial
theorem tw7660385330429833066:True:=trivial
theorem tw12960717726453263210:True:=trivial
theorem tw5302458251377759114:True:=trivial
theorem tw14971249610036373515:True:=trivial
theorem tw17095384879837634635:True:=trivial
theorem tw3131379520907414859:True:=trivial
theorem tw1417965409833503147:True:=trivial
theorem tw13466794032127688139:True:=trivial
theorem tw4686228209604110891:True:=trivial
theorem tw13044770751395513995:True:=trivial
theorem tw1110791587972785931:True:=trivial
theorem tw6354029689468480427:True:=trivial
theorem tw17696070195858578572:True:=trivial
theorem tw2383489475375112332:True:=trivial
theorem tw5667823304368508044:True:=trivial
theorem tw10362869317317140684:True:=trivial
theorem tw6430219593405096204:True:=trivial
theorem tw1737931258721582604:True:=trivial
theorem tw2016097189223967276:True:=trivial
theorem tw13770473221839554092:True:=trivial
theorem tw855243771082048076:True:=trivial
theorem tw16222431505148187244:True:=trivial
theorem tw14236304526322757228:True:=trivial
theorem tw18424147497671489164:True:=trivial
theorem tw17734654925633373836:True:=trivial
theorem tw17063192674569911980:True:=trivial
theorem tw17269009165761462060:True:=trivial
theorem tw15952320736148542316:True:=trivial
theorem tw14744703850367712108:True:=trivial
theorem tw343024805341297548:True:=trivial
theorem tw15072462856629303212:True:=trivial
theorem tw11992114324080541709:True:=trivial
theorem tw286493738099312717:True:=trivial
theorem tw4876279793975946413:True:=trivial
theorem tw9811230319947206861:True:=trivial
theorem tw7450230542092478701:True:=trivial
theorem tw6943848299797567821:True:=trivial
theorem tw4532037791781245293:True:=trivial
theorem tw8954021796474707437:True:=trivial
theorem tw11217906020639464077:True:=trivial
theorem tw749907602163587821:True:=trivial
theorem tw10574732452101583597:True:=trivial
theorem tw5023398532708378638:True:=trivial
theorem tw5605185808697841870:True:=trivial
theorem tw5309902598533156046:True:=trivial
theorem tw10613032424827461870:True:=trivial
theorem tw18353660424617335214:True:=trivial
theorem tw220696271405539790:True:=trivial
theorem tw10713949370477901326:True:=trivial
theorem tw11691254943972225614:True:=trivial
theorem tw5207005115996597870:True:=trivial
theorem tw10482527638938948238:True:=trivial
theorem tw940061184995114638:True:=trivial
theorem tw703557911064750766:True:=trivial
theorem tw4269314951683972878:True:=trivial
theorem tw9043222278180211598:True:=trivial
theorem tw12405137393880169358:True:=trivial
theorem tw12582394430959340494:True:=trivial
theorem tw11512253324314363854:True:=trivial
theorem tw6094880706583109679:True:=trivial
theorem tw16302460396156470351:True:=trivial
theorem tw2496992822984284335:True:=trivial
theorem tw4851110999294706927:True:=trivial
theorem tw191582542770171215:True:=trivial
theorem tw14535742429680125295:True:=trivial
theorem tw4208667349998770575:True:=trivial
theorem tw16572490693817008687:True:=trivial
theorem tw13183086419479580207:True:=trivial
theorem tw2132830847004587599:True:=trivial
theorem tw14534559936681911023:True:=trivial
theorem tw14862210741072628591:True:=trivial
theorem tw7329113770284390351:True:=trivial
theorem tw4185567352883665072:True:=trivial
theorem tw5528658885390540016:True:=trivial
theorem tw9046449712605611280:True:=trivial
theorem tw7507299366977830160:True:=trivial
theorem tw13594403426856869264:True:=trivial
theorem tw6049485511812522384:True:=trivial
theorem tw17250356913139441136:True:=trivial
theorem tw2333140005619990032:True:=trivial
theorem tw18408729437061890608:True:=trivial
theorem tw16568634465153720976:True:=trivial
theorem tw6255877992721028880:True:=trivial
theorem tw17197786483359916848:True:=trivial
theorem tw13707157414995102608:True:=trivial
theorem tw10387340019178455952:True:=trivial
theorem tw17313990948164046865:True:=trivial
theorem tw18148806699979139089:True:=trivial
theorem tw3860603682975546385:True:=trivial
theorem tw2163536141481026641:True:=trivial
theorem tw4818810999276131441:True:=trivial
theorem tw10852444091957518545:True:=trivial
theorem tw2929426292674194673:True:=trivial
theorem tw16419431073576592689:True:=trivial
theorem tw17039600869447037233:True:=trivial
theorem tw1941120491957063985:True:=trivial
theorem tw7962441220842309969:True:=trivial
theorem tw10785060933736474961:True:=trivial
theorem tw15987034165105301873:True:=trivial
theorem tw5125219451833078193:True:=trivial
theorem tw16279062934154532369:True:=trivial
theorem tw16668740561603894993:True:=trivial
theorem tw122338270462327505:True:=trivial
theorem tw5592493133722663665:True:=trivial
theorem tw13435790878710564689:True:=trivial
theorem tw13409234773807052657:True:=trivial
theorem tw13643630165727322993:True:=trivial
theorem tw15085723218301199217:True:=trivial
theorem tw16283175575826534289:True:=trivial
theorem tw2298838600718046193:True:=trivial
theorem tw14747520213129141330:True:=trivial
theorem tw15997606590335302962:True:=trivial
theorem tw1163211062430359922:True:=trivial
theorem tw6108994644804440498:True:=trivial
theorem tw17062029874863461810:True:=trivial
theorem tw329040787213199826:True:=trivial
theorem tw14128769522527504882:True:=trivial
theorem tw17514668941471468050:True:=trivial
theorem tw7980629619130051250:True:=trivial
theorem tw9694602494192685778:True:=trivial
theorem tw2721199639822359250:True:=trivial
theorem tw16722214151851412210:True:=trivial
theorem tw9945012336751163186:True:=trivial
theorem tw3387405867534191474:True:=trivial
theorem tw11100099135581508466:True:=trivial
theorem tw8459105715472082834:True:=trivial
theorem tw9374922806296405970:True:=trivial
theorem tw15773906944578068466:True:=trivial
theorem tw1024418840190952467:True:=trivial
theorem tw17417455258317727763:True:=trivial
theorem tw10129943070721537139:True:=trivial
theorem tw16405136961623600371:True:=trivial
theorem tw3235970261007514099:True:=trivial
theorem tw5311370358369777363:True:=trivial
theorem tw11136079879907929971:True:=trivial
theorem tw18386943744199979891:True:=trivial
theorem tw16962193472413193107:True:=trivial
theorem tw4206205029046389715:True:=trivial
theorem tw6158429627692240980:True:=trivial
theorem tw6715192524786920596:True:=trivial
theorem tw4460467334944583860:True:=trivial
theorem tw5124598378590954708:True:=trivial
theorem tw6337133277318275348:True:=trivial
theorem tw10714583381997497716:True:=trivial
theorem tw8026053850844280308:True:=trivial
theorem tw11545294301821019732:True:=trivial
theorem tw14186070119888765524:True:=trivial
theorem tw17865765796779270900:True:=trivial
theorem tw2024415907662963476:True:=trivial
theorem tw12995294642829787924:True:=trivial
theorem tw4186086673018289012:True:=trivial
theorem tw14833030578959843220:True:=trivial
theorem tw1803089151644065813:True:=trivial
theorem tw16390136341937186101:True:=trivial
theorem tw3743035566741767637:True:=trivial
theorem tw7078959806379148789:True:=trivial
theorem tw20113332450080597:True:=trivial
theorem tw4567997361464541045:True:=trivial
theorem tw10348688622084921301:True:=trivial
theorem tw11585129417309748213:True:=trivial
theorem tw11364452190774347830:True:=trivial
theorem tw3990006937263895638:True:=trivial
theorem tw10946978889821447382:True:=trivial
theorem tw4117621062405612886:True:=trivial
theorem tw5170062479325447542:True:=trivial
theorem tw9573126109085781398:True:=trivial
theorem tw9480836437774608822:True:=trivial
theorem tw9769491947618253302:True:=trivial
theorem tw6316079996195903094:True:=trivial
theorem tw9610106721822994038:True:=trivial
theorem tw15285441523296617174:True:=trivial
theorem tw1651566124749688534:True:=trivial
theorem tw13317641544949494550:True:=trivial
theorem tw2737500383571459095:True:=trivial
theorem tw15475154237357694999:True:=trivial
theorem tw10981840914825654359:True:=trivial
theorem tw8790357426615989463:True:=trivial
theorem tw10125831625022956759:True:=trivial
theorem tw5895025580062809367:True:=trivial
theorem tw10747112821946290519:True:=trivial
theorem tw9058445822183848503:True:=trivial
theorem tw12820058880167937623:True:=trivial
theorem tw2341329221047705239:True:=trivial
theorem tw8766183078421676727:True:=trivial
theorem tw15435837407728676631:True:=trivial
theorem tw399148054381585175:True:=trivial
theorem tw10689149665302040407:True:=trivial
theorem tw7298770681352361879:True:=trivial
theorem tw17059569446686280631:True:=trivial
theorem tw11863936148068752343:True:=trivial
theorem tw12090378974729573464:True:=trivial
theorem tw12799308026975868024:True:=trivial
theorem tw302286612141724920:True:=trivial
theorem tw9287221820645973336:True:=trivial
theorem tw12848631315672307128:True:=trivial
theorem tw16856489206788840920:True:=trivial
theorem tw12913136117322323480:True:=trivial
theorem tw11312704363993735736:True:=trivial
theorem tw14776037166146014904:True:=trivial
theorem tw2208933147838267096:True:=trivial
theorem tw3933847980960795352:True:=trivial
theorem tw13183779012782668536:True:=trivial
theorem tw13816048929182483192:True:=trivial
theorem tw12926233412812578680:True:=trivial
theorem tw9533551983912355736:True:=trivial
theorem tw9990094880410596312:True:=trivial
theorem tw5552841046667892761:True:=trivial
theorem tw14059924087438202905:True:=trivial
theorem tw11005973705551532313:True:=trivial
theorem tw3781563480650667321:True:=trivial
theorem tw8912024373948386617:True:=trivial
theorem tw17214502962251005369:True:=trivial
theorem tw12184026826254760441:True:=trivial
theorem tw8823711744767929977:True:=trivial
theorem tw8410111953263636121:True:=trivial
theorem tw14179106197427120857:True:=trivial
theorem tw16621216955019201273:True:=trivial
theorem tw16846878236726679353:True:=trivial
theorem tw2249782667789539129:True:=trivial
theorem tw4856337258970846041:True:=trivial
theorem tw6570027587428832089:True:=trivial
theorem tw6142621120246003609:True:=trivial
theorem tw7739148218059896825:True:=trivial
theorem tw2789806988891859066:True:=trivial
theorem tw2915853788295423290:True:=trivial
theorem tw3204831583211280698:True:=trivial
theorem tw17144796900133896570:True:=trivial
theorem tw9385323363736871322:True:=trivial
theorem tw2780425496364754490:True:=trivial
theorem tw5280535816280804954:True:=trivial
theorem tw15843806226483888794:True:=trivial
theorem tw4995211696399308506:True:=trivial
theorem tw8297967527176617882:True:=trivial
theorem tw7293812113079232410:True:=trivial
theorem tw4864494612782409658:True:=trivial
theorem tw11584507166323003419:True:=trivial
theorem tw10486962882375108667:True:=trivial
theorem tw9852483211925138491:True:=trivial
theorem tw16004754058056222971:True:=trivial
theorem tw14180503891621806363:True:=trivial
theorem tw6094177625362518331:True:=trivial
theorem tw12575604488899781019:True:=trivial
theorem tw9146602206676231739:True:=trivial
theorem tw13507861257352832859:True:=trivial
theorem tw10985330744046254011:True:=trivial
theorem tw7014122943137628123:True:=trivial
theorem tw1421287122215890972:True:=trivial
theorem tw6380559130017843324:True:=trivial
theorem tw1982775727300557948:True:=trivial
theorem tw18241056070374727900:True:=trivial
theorem tw2265305001100065020:True:=trivial
theorem tw11356406234466499868:True:=trivial
theorem tw11869911905837067708:True:=trivial
theorem tw8895702005366310364:True:=trivial
theorem tw18272532677166717404:True:=trivial
theorem tw17292631956124704348:True:=trivial
theorem tw12525905657610177116:True:=trivial
theorem tw8678220812396826236:True:=trivial
theorem tw5424036771590824636:True:=trivial
theorem tw13280107771455595228:True:=trivial
theorem tw12260486190267666172:True:=trivial
theorem tw16180427552374978364:True:=trivial
theorem tw4548626431969695676:True:=trivial
theorem tw5772963070088578012:True:=trivial
theorem tw10446129829462431708:True:=trivial
theorem tw5870745869055987773:True:=trivial
theorem tw6563899512794517725:True:=trivial
theorem tw15916369478239403229:True:=trivial
theorem tw17525168697326728541:True:=trivial
theorem tw10032480632583214429:True:=trivial
theorem tw4946011875958616509:True:=trivial
theorem tw4891153343012424189:True:=trivial
theorem tw12116029616630563389:True:=trivial
theorem tw7221194178033376925:True:=trivial
theorem tw7379103080193012509:True:=trivial
theorem tw13427929356373456701:True:=trivial
theorem tw16715447930535152477:True:=trivial
theorem tw4077951474422100829:True:=trivial
theorem tw14914139814040135517:True:=trivial
theorem tw13854106367603683229:True:=trivial
theorem tw5844968023617727421:True:=trivial
theorem tw6640191765884031997:True:=trivial
theorem tw4344488765310189726:True:=trivial
theorem tw7128607537831865502:True:=trivial
theorem tw886262983411418366:True:=trivial
theorem tw2906835219221129598:True:=trivial
theorem tw5330952772211018238:True:=trivial
theorem tw17477836876288263678:True:=trivial
theorem tw6788230512115180190:True:=trivial
theorem tw6392681882655721214:True:=trivial
theorem tw16329528053673569022:True:=trivial
theorem tw10584512047614093054:True:=trivial
theorem tw18330698445499001598:True:=trivial
theorem tw11022324862433270654:True:=trivial
theorem tw8499873962492678014:True:=trivial
theorem tw14836534788741829534:True:=trivial
theorem tw8379177875157524414:True:=trivial
theorem tw2024248651396113439:True:=trivial
theorem tw15886998471267148991:True:=trivial
theorem tw10910905197279175999:True:=trivial
theorem tw4673882569926270399:True:=trivial
theorem tw3474312610258411999:True:=trivial
theorem tw6215289289318365695:True:=trivial
theorem tw3806232237697144543:True:=trivial
theorem tw16056036858117674751:True:=trivial
theorem tw1537879974763122527:True:=trivial
theorem tw9527887751387194367:True:=trivial
end PySem.W.Fast
open PySem PySem.W PyProof.Rows
set_option maxRecDepth 100000 in
set_option maxHeartbeats 0 in
theorem PySem.Challenge.cw_wordworths_s01_answers_holds : PySem.Challenge.rw_wordworths_s01_answers.Holds := by
  w_on; k_headS; (case hw => exact ⟨[.list [.int 0]], by decide +kernel, by decide +kernel⟩)
  k_fillS
  refine L2.walk_specK (r := PySem.Challenge.rw_wordworths_s01_answers) (k := 34) (CX := L2.CX0) (ps := ["calls"]) (sp := Wp.sp_answers) (by decide +kernel) rfl rfl ⟨rfl, by decide, by decide⟩ (fun w h Y => PySem.W.kIn_of Y) ?F ?S (fun _ _ _ _ z => z)
  case F =>
    intro w mg fa h Y KX G hmg
    have T : ∃ t : Wp.Adr, Wp.Txt (L2.KOf KX) mg t ∧ mg "answers" = some (.ref t.f_answers) := by
      dsimp only [L2.KOf]
      refine' Wp.txt_mk KX G ?_ ?_ ?_ ?_ ?_ ?_ ?_ ?_ ?_ ?_ ?_ ?_ ?_ ?_ ?_ ?_ ?_ ?_ ?_ ?_ ?_ ?_ ?_ ?_ ?_ ?_ ?_ ?_ ?_ ?_ ?_ ?_ ?_ ?_ ?_ ?_ ?_ ?_ ?_ ?_ ?_ ?_ ?_ ?_ ?_ ?_ ?_ ?_ ?_ ?_ ?_ ?_ ?_ ?_ ?_ ?_ ?_ ?_ ?_ ?_ ?_ ?_ ?_ ?_ ?_ ?_ ?_ ?_ ?_ ?_ ?_ ?_ ?_ ?_ ?_ ?_ ?_ ?_ ?_ ?_ ?_ ?_ ?_ ?_ ?_ ?_ ?_ ?_ ?_ ?_ ?_ ?_ ?_ ?_ ?_ ?_ ?_ ?_ ?_ ?_ ?_ ?_ ?_ ?_ ?_ ?_ ?_ ?_ ?_ ?_ ?_ ?_ ?_ ?_ ?_ ?_ ?_ ?_ ?_ ?_ ?_ ?_ ?_ ?_ ?_ ?_ ?_ ?_ ?_ ?_ ?_ ?_ ?_ ?_ ?_ ?_ ?_ ?_ ?_ ?_ ?_ ?_ ?_ ?_ ?_ ?_ ?_ ?_ ?_ ?_ ?_ ?_ ?_ ?_ ?_ ?_ ?_ ?_ ?_ ?_ ?_ ?_ ?_ ?_ ?_ ?_ ?_ ?_ ?_ ?_ ?_ ?_ ?_ ?_ ?_ ?_ ?_ ?_ ?_
      any_goals k_is
      any_goals exact L2.Mk.mk (by k_is) (by k_is) (by k_is) (by k_is)
      any_goals exact L2.Cls.mk (by k_is) (by k_is) (by k_is) (by k_is)
      any_goals exact L2.Meth.mk (by k_is) (by k_is) (by k_is)
      any_goals exact L2.fun_mk (by k_is) (by k_is) (by k_is)
    obtain ⟨t, T, e⟩ := T
    have e0 := hmg.symm.trans e
    cases e0
    refine ⟨t.d_answers, fun s us hu => ?_, fun base kb nb => ?_⟩
    · obtain ⟨oc, od, kV, doc, pm, an, cdv, ct, osl, e, lk, hcd⟩ := T.F_answers.ex
      rw [e]
      exact .of_eq (Wp.b_answers kV doc pm an cdv ct us hu)
    · exact Wp.ok_answers T fun T => Wp.ok_answers_at T (Wp.all_calls T)
  case S =>
    intro K H xs a hO hwi hask hx
    cases hx with
    | cons h1 h2 =>
      cases h2
      cases h1 with
      | lst hs ha =>
        have e := L2.ints_dw a.1 _ ha
        subst e
        have q : ((Codec.inLen 0 13000 a.1 && a.1.all (Codec.inInt (-2147483648) 4294967295)) && true) = true := hwi
        rw [Bool.and_eq_true, Bool.and_eq_true] at q
        exact ⟨_, a.1, rfl, Wp.sqf_of hO hs, (Codec.inNat_iff.mp q.1.1).2, hask, fun H' p hp => .lst (L2.SqL.of hp) (L2.dw_ints _)⟩
