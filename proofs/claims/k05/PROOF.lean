import PyProof.Rows.All
import Wide.All
import OpenK.AllK
import Wide.FinOn
import Lean
import PyProof.EqAt
import PyProof.EqKinds
import PyProof.Rows.MinMaxN
import KE.KUnpackStar
import KE.KIntText
import PyProof.CallStr
import KE.KDictSum
import KE.KSortTup
import PyProof.Walk
import PyProof.Rows.SortRuns
import PyProof.Rows.ChunkEnd
import PyProof.Rows.Range3
import PyProof.Rows.SeqGen
import PyProof.ConsumeWalk
import PyProof.ListRange
import PyProof.NeKinds
import PyProof.TupleCall
import PySem.Challenge.RW_slipcurve_k05_nearest
local macro_rules | `(tactic| trivial) => `(tactic| first | exact .inl rfl | exact .inr rfl | assumption)
set_option Elab.async false
set_option linter.all false
set_option maxRecDepth 100000
namespace L2
open PySem PySem.Spec PyProof.Rows
abbrev Key:=Sum Int Str
def zd3 : Key → Value → Bool
 | .inl k,v => Value.isInt k v
 | .inr x,v => Value.isStrOf x v
def zl5 (w : World) : Key → Int
 | .inl k => hashInt k
 | .inr x => hashStr w x
theorem zae : ∀ {k : Key} {v : Value},zd3 k v = true → (∃ i t,k = Sum.inl i ∧ v = Value.int i t) ∨ (∃ x t,k = Sum.inr x ∧ v = Value.str x t)
 | .inl i,v,h => by
  obtain ⟨t,e⟩:=Value.isInt_shape (k:=i) (v:=v) h
  exact .inl ⟨i,t,rfl,e⟩
 | .inr x,v,h => by
  obtain ⟨t,e⟩:=Value.isStrOf_shape (x:=x) (v:=v) h
  exact .inr ⟨x,t,rfl,e⟩
theorem zhk (i : Int) (t : Tok) : zd3 (.inl i) (.int i t) = true:=by simp [zd3,Value.isInt]
theorem zhl (x : Str) (t : Tok) : zd3 (.inr x) (.str x t) = true:=by simp [zd3,Value.isStrOf]
theorem zkC (a b : Int) : decide ((Sum.inl a : Key) = Sum.inl b) = (a == b):=by
 by_cases e : a = b
 ·subst e; simp
 ·have h : ¬ (Sum.inl a : Key) = Sum.inl b:=fun q => e (Sum.inl.inj q)
  rw [decide_eq_false h]
  exact (beq_eq_false_iff_ne.mpr e).symm
theorem zkD (a b : Str) : decide ((Sum.inr a : Key) = Sum.inr b) = decide (a = b):=by
 by_cases e : a = b
 ·subst e; simp
 ·have h : ¬ (Sum.inr a : Key) = Sum.inr b:=fun q => e (Sum.inr.inj q)
  rw [decide_eq_false h,decide_eq_false e]
theorem zkE (a : Int) (b : Str) : decide ((Sum.inl a : Key) = Sum.inr b) = false:=decide_eq_false (fun q => nomatch q)
theorem zkF (a : Str) (b : Int) : decide ((Sum.inr a : Key) = Sum.inl b) = false:=decide_eq_false (fun q => nomatch q)
def zap (prog : Program) (w : World) : PySem.KeyKind prog w Key where
 is:=zd3
 hash:=zl5 w
 inj:=fun v a b ha hb => by
  rcases zae ha with ⟨i,t,rfl,rfl⟩ | ⟨x,t,rfl,rfl⟩
  ·rcases zae hb with ⟨j,u,rfl,e⟩ | ⟨y,u,rfl,e⟩
   ·injection e with e1 _; rw [e1]
   ·exact nomatch e
  ·rcases zae hb with ⟨j,u,rfl,e⟩ | ⟨y,u,rfl,e⟩
   ·exact nomatch e
   ·injection e with e1 _; rw [e1]
 byValue:=fun k v h => by
  rcases zae h with ⟨i,t,rfl,rfl⟩ | ⟨x,t,rfl,rfl⟩ <;> rfl
 pyHash:=fun hv h => by
  rcases zae hv with ⟨i,t,rfl,rfl⟩ | ⟨x,t,rfl,rfl⟩
  ·exact wpAny_pyHash_int h
  ·exact wpAny_pyHash_str h
 eqBool:=fun hu hv h => by
  rcases zae hu with ⟨i,t,rfl,rfl⟩ | ⟨x,t,rfl,rfl⟩
  ·rcases zae hv with ⟨j,u,rfl,rfl⟩ | ⟨y,u,rfl,rfl⟩
   ·rw [zkC] at h; exact wpAny_eqBool_int h
   ·rw [zkE] at h; exact SeqAt.EqAt.int_str i t y u _ _ _ _ h
  ·rcases zae hv with ⟨j,u,rfl,rfl⟩ | ⟨y,u,rfl,rfl⟩
   ·rw [zkF] at h; exact SeqAt.EqAt.str_int x t j u _ _ _ _ h
   ·rw [zkD] at h; exact wpAny_eqBool_str h
 «strs»:=fun k x t v h => by
  rcases zae h with ⟨i,u,rfl,e⟩ | ⟨y,u,rfl,e⟩
  ·exact nomatch e
  ·injection e with e1 _
   subst e1
   cases v <;> rfl
theorem zfc (prog : Program) (w : World) (i : Int) (t : Tok) : (zap prog w).is (.inl i) (.int i t) = true:=zhk i t
theorem zfd (prog : Program) (w : World) (x : Str) (t : Tok) : (zap prog w).is (.inr x) (.str x t) = true:=zhl x t
end L2
namespace L2
open PySem PySem.Spec PyProof.Rows
inductive V where
 | non | bl (b : Bool) | int (i : Int) | str (x : Str) | byt (b : Array UInt8) | flt (b : UInt64) | ref (a : Addr) | ty (n : String)
 deriving DecidableEq
def RelV : V → Value → Prop
 | .non,u => u = Value.none
 | .bl b,u => u = Value.bool b
 | .int i,u => ∃ t,u = Value.int i t
 | .str x,u => ∃ t,u = Value.str x t
 | .byt b,u => ∃ t,u = Value.bytes b t
 | .flt b,u => ∃ t,u = Value.float b t
 | .ref a,u => u = Value.ref a
 | .ty n,u => u = Value.type n
abbrev zA : List V → List Value → Prop:=Paired RelV
theorem zA.length {xs : List V} {us : List Value} (r : zA xs us) : xs.length = us.length:=Paired.length r
theorem zA.get : ∀ {xs : List V} {us : List Value} {i : Nat} {x : V},zA xs us → xs[i]? = some x → ∃ u,us[i]? = some u ∧ RelV x u
 | _,_,_,_,.nil,e => by simp at e
 | _,_,0,_,.cons r _,e => by simp at e; subst e; exact ⟨_,rfl,r⟩
 | _,_,i + 1,x,.cons _ t,e => by
  obtain ⟨u,h1,h2⟩:=zA.get (i:=i) (x:=x) t (by simpa using e)
  exact ⟨u,by simpa using h1,h2⟩
theorem zA.set {x : V} {u : Value} (r : RelV x u) : ∀ {xs : List V} {us : List Value} (i : Nat),zA xs us → zA (xs.set i x) (us.set i u)
 | _,_,_,.nil => .nil
 | _,_,0,.cons _ t => .cons r t
 | _,_,i + 1,.cons q t => .cons q (zA.set r i t)
theorem zA.append : ∀ {xs ys : List V} {us ws : List Value},zA xs us → zA ys ws → zA (xs ++ ys) (us ++ ws)
 | _,_,_,_,.nil,s => s
 | _,_,_,_,.cons r t,s => .cons r (zA.append t s)
theorem zA.take : ∀ {xs : List V} {us : List Value} (n : Nat),zA xs us → zA (xs.take n) (us.take n)
 | _,_,0,_ => .nil
 | _,_,_ + 1,.nil => .nil
 | _,_,n + 1,.cons r t => .cons r (zA.take n t)
theorem zA.drop : ∀ {xs : List V} {us : List Value} (n : Nat),zA xs us → zA (xs.drop n) (us.drop n)
 | _,_,0,r => r
 | _,_,_ + 1,.nil => .nil
 | _,_,n + 1,.cons _ t => zA.drop n t
def zhm : Option V → Option Value → Prop
 | some v,some u => RelV v u
 | none,none => True
 | _,_ => False
def KV {κ : Type} : List (κ × V) → List (κ × Value) → Prop:=Paired fun (p : κ × V) (q : κ × Value) => p.1 = q.1 ∧ RelV p.2 q.2
def kV : Key → V
 | .inl i => .int i
 | .inr x => .str x
inductive HO where
 | lst (xs : List V)
 | tup (xs : List V)
 | dK (kvs : List (Key × V)) | dT (kvs : List (List Key × V))
 | set (S : Int → Bool) (n : Nat)
 | ins (C dx : Addr) (fs : List (Str × V))
 | own (x : Addr)
 | xd (fs : List (Str × V))
 | met (f x : Addr)
 | rng (lo hi : Int)
 | frz (o : Obj) (u : HO)
 | tbl (ps : Array Value)
 | ext (φ : Heap → Prop)
abbrev Hp:=Addr → Option HO
def upd (H : Hp) (a : Addr) (o : HO) : Hp:=fun b => if b = a then some o else H b
theorem zb {H : Hp} {a : Addr} {o : HO} : upd H a o a = some o:=by unfold upd; rw [if_pos rfl]
theorem zp {H : Hp} {a b : Addr} {o : HO} (h : b ≠ a) : upd H a o b = H b:=by unfold upd; rw [if_neg h]
theorem zlw {H : Hp} {a b : Addr} {o u : HO} (h : H a = some o) (h' : H b = some u) (d : o ≠ u) : a ≠ b:=by
 intro e; subst e; rw [h] at h'; exact d (Option.some.inj h')
theorem zu {H : Hp} {a b : Addr} {o : HO} (h : H a = some o) (h' : H b = none) : a ≠ b:=by
 intro e; subst e; rw [h] at h'; cases h'
section
variable (P : Program) (w : World)
def zR (H : Hp) (h : Heap) (a : Addr) : HO → Prop
 | .lst xs => xs.length ≤ sizeLine ∧ ∃ (its : List Value) (n : Nat),zA xs its ∧ h.get? a = some { cls:=.type "list",data:=.seq its.toArray n }
 | .tup xs => xs.length ≤ sizeLine ∧ ∃ its : List Value,zA xs its ∧ IsTup h a its.toArray
 | .dK kvs => kvs.length ≤ sizeLine ∧ (a == sysModules) = false ∧ ∃ vs,KV kvs vs ∧ h.DictOf (zap P w) a vs
 | .dT kvs => kvs.length ≤ sizeLine ∧ (a == sysModules) = false ∧ ∃ xs : List (List Key × Addr × Value),
   Paired (fun (p : List Key × V) (q : List Key × Addr × Value) => p.1 = q.1 ∧ H q.2.1 = some (.tup (p.1.map kV)) ∧ RelV p.2 q.2.2) kvs xs ∧
   ∃ o es ep,h.get? a = some o ∧ o.ExactDict ∧ o.data = .dict es ep ∧ es.toList = xs.map (entryOfKey (tupleKind (zap P w))) ∧ (xs.map (·.1)).Nodup
 | .set S n => h.SetOf (intKind P w) a S n
 | .ins C dx fs => H dx = some (.own a) ∧ fs.length ≤ 1000 ∧ dx ≠ a ∧ h.get? a = some (PySem.W.instObj C dx) ∧
   ∃ mA,h.Ns1 dx mA ∧ (∀ f,zhm (fs.lookup f) (mA f)) ∧ PySem.Within mA (fs.map (·.1))
 | .own _ => ∃ o,h.get? a = some o
 | .xd fs => ∃ mA,h.Ns1 a mA ∧ ∀ f,zhm (fs.lookup f) (mA f)
 | .rng lo hi => ∃ t u v,h.get? a = some { cls:=.type "range",data:=.fields #[.int lo t,.int hi u,.int 1 v] }
 | .frz o u => h.get? a = some o ∧ zR H h a u
 | .tbl ps => h.get? a = some { cls:=.none,data:=.fields ps }
 | .met f x => h.get? a = some (PySem.W.methodObj (.ref f) (.ref x))
 | .ext φ => φ h ∧ (∃ o,h.get? a = some o) ∧ ∀ h1 h2 : Heap,φ h1 → (∀ o,h1.get? a = some o → h2.get? a = some o) → φ h2
def HOk (H : Hp) (h : Heap) : Prop:=∀ a o,H a = some o → zR P w H h a o
end
section
variable {P : Program} {w : World} {H H' : Hp} {h h' : Heap} {a : Addr} {o : HO}
theorem zR.lt (x : zR P w H h a o) : a < h.objs.size:=by
 cases o with
 | lst xs => obtain ⟨_,_,_,_,e⟩:=x; exact Heap.lt_size e
 | tup xs => obtain ⟨_,_,_,p⟩:=x; exact p.lt
 | dK kvs => obtain ⟨_,_,_,_,o,_,_,e,_⟩:=x; exact Heap.lt_size e
 | dT kvs => obtain ⟨_,_,_,_,o,_,_,e,_⟩:=x; exact Heap.lt_size e
 | set S n => obtain ⟨o,_,_,_,e,_⟩:=x; exact Heap.lt_size e
 | ins C dx fs => obtain ⟨_,_,_,e,_⟩:=x; exact Heap.lt_size e
 | own y => obtain ⟨_,e⟩:=x; exact Heap.lt_size e
 | xd fs => obtain ⟨_,⟨_,_,_,e,_⟩,_⟩:=x; exact Heap.lt_size e
 | rng lo hi => obtain ⟨_,_,_,e⟩:=x; exact Heap.lt_size e
 | frz ob u => obtain ⟨e,_⟩:=x; exact Heap.lt_size e
 | tbl ps => exact Heap.lt_size (show h.get? a = some _ from x)
 | met f y => exact Heap.lt_size (show h.get? a = some _ from x)
 | ext φ => obtain ⟨_,⟨_,e⟩,_⟩:=x; exact Heap.lt_size e
theorem Paired.mapP {α β : Type} {F G : α → β → Prop} : ∀ {l₁ : List α} {l₂ : List β},Paired F l₁ l₂ → (∀ a b,F a b → G a b) → Paired G l₁ l₂
 | _,_,.nil,_ => .nil
 | _,_,.cons r t,f => .cons (f _ _ r) (Paired.mapP t f)
theorem zR.stay (x : zR P w H h a o) (k : ∀ b u,(b = a ∨ H b = some (.own a)) → h.get? b = some u → h'.get? b = some u)
  (ho : ∀ b,H b = some (.own a) → H' b = some (.own a)) (ht : ∀ b xs,H b = some (.tup xs) → H' b = some (.tup xs)) : zR P w H' h' a o:=by
 induction o with
 | lst xs => obtain ⟨z,its,n,r,e⟩:=x; exact ⟨z,its,n,r,k _ _ (.inl rfl) e⟩
 | tup xs => obtain ⟨z,its,r,ob,e,c⟩:=x; exact ⟨z,its,r,ob,k _ _ (.inl rfl) e,c⟩
 | dK kvs => obtain ⟨z,y,vs,r,ob,es,ep,e,c⟩:=x; exact ⟨z,y,vs,r,ob,es,ep,k _ _ (.inl rfl) e,c⟩
 | dT kvs =>
  obtain ⟨z,y,xs,r,ob,es,ep,e,c⟩:=x
  exact ⟨z,y,xs,Paired.mapP r fun p q z => ⟨z.1,ht _ _ z.2.1,z.2.2⟩,ob,es,ep,k _ _ (.inl rfl) e,c⟩
 | set S n => obtain ⟨ob,es,ep,t,e,c⟩:=x; exact ⟨ob,es,ep,t,k _ _ (.inl rfl) e,c⟩
 | ins C dx fs =>
  obtain ⟨d,z,ne,e,mA,⟨od,es,ep,e2,c⟩,r⟩:=x
  exact ⟨ho _ d,z,ne,k _ _ (.inl rfl) e,mA,⟨od,es,ep,k _ _ (.inr d) e2,c⟩,r⟩
 | own y => obtain ⟨ob,e⟩:=x; exact ⟨ob,k _ _ (.inl rfl) e⟩
 | xd fs => obtain ⟨mA,⟨od,es,ep,e,c⟩,r⟩:=x; exact ⟨mA,⟨od,es,ep,k _ _ (.inl rfl) e,c⟩,r⟩
 | rng lo hi => obtain ⟨t,u,v,e⟩:=x; exact ⟨t,u,v,k _ _ (.inl rfl) e⟩
 | frz ob u ih => obtain ⟨e,q⟩:=x; exact ⟨k _ _ (.inl rfl) e,ih q⟩
 | tbl ps =>
  have e : h.get? a = some { cls:=.none,data:=.fields ps }:=x
  show h'.get? a = some { cls:=.none,data:=.fields ps }
  exact k a _ (.inl rfl) e
 | met f y =>
  have e : h.get? a = some (PySem.W.methodObj (.ref f) (.ref y)):=x
  show h'.get? a = some (PySem.W.methodObj (.ref f) (.ref y))
  exact k a _ (.inl rfl) e
 | ext φ => obtain ⟨p,⟨o,e⟩,st⟩:=x; exact ⟨st _ _ p fun o q => k _ _ (.inl rfl) q,⟨o,k _ _ (.inl rfl) e⟩,st⟩
theorem HOk.lt (x : HOk P w H h) (e : H a = some o) : a < h.objs.size:=(x a o e).lt
theorem HOk.fresh (x : HOk P w H h) (e : h.objs.size ≤ a) : H a = none:=by
 cases q : H a with
 | none => rfl
 | some u => exact absurd (Nat.lt_of_lt_of_le (x.lt q) e) (Nat.lt_irrefl _)
theorem HOk.kept (x : HOk P w H h) (k : ∀ b u,h.get? b = some u → h'.get? b = some u) : HOk P w H h':=fun a o e =>
 (x a o e).stay (fun b u _ q => k b u q) (fun _ q => q) fun _ _ q => q
theorem HOk.laid (x : HOk P w H h) (k : ∀ b u,h.get? b = some u → h'.get? b = some u) (hp : h.objs.size ≤ a) (new : zR P w (upd H a o) h' a o) : HOk P w (upd H a o) h':=fun b u e => by
 have hn:=x.fresh hp
 by_cases hb : b = a
 ·subst hb; rw [zb] at e; cases e; exact new
 ·rw [zp hb] at e
  exact (x b u e).stay (fun c v _ q => k c v q) (fun c q => by rw [zp (zu q hn)]; exact q) fun c xs q => by rw [zp (zu q hn)]; exact q
end
def Rd (H : Hp) (a : Addr) (u : HO) : Prop:=H a = some u ∨ ∃ o,H a = some (.frz o u)
theorem Rd.ok {P : Program} {w : World} {H : Hp} {h : Heap} {a : Addr} {u : HO} (r : Rd H a u) (x : HOk P w H h) : zR P w H h a u:=by
 rcases r with r | ⟨o,r⟩
 ·exact x a u r
 ·obtain ⟨_,q⟩:=x a _ r
  exact q
def Mut : Option HO → Prop
 | some (.lst _) => True
 | some (.dK _) => True
 | some (.dT _) => True
 | some (.set _ _) => True
 | some (.ins _ _ _) => True
 | some (.ext _) => True
 | _ => False
section
variable {P : Program} {w : World} {H : Hp} {h h' : Heap} {x e : Addr} {o' : HO}
theorem HOk.write (ok : HOk P w H h) (mu : Mut (H x)) (he : e = x ∨ H e = some (.own x)) (k : ∀ b u,b ≠ e → h.get? b = some u → h'.get? b = some u) (heo : ∃ u,h'.get? e = some u)
  (new : zR P w (upd H x o') h' x o') : HOk P w (upd H x o') h':=fun b u q => by
 have nown : ∀ c y,H c = some (.own y) → c ≠ x:=fun c y r z => by subst z; rw [r] at mu; exact mu
 have ntup : ∀ c xs,H c = some (.tup xs) → c ≠ x:=fun c xs r z => by subst z; rw [r] at mu; exact mu
 by_cases hb : b = x
 ·subst hb; rw [zb] at q; cases q; exact new
 ·rw [zp hb] at q
  by_cases hbe : b = e
  ·have q' : H b = some (.own x):=by
    rcases he with z | z
    ·exact absurd (hbe.trans z) hb
    ·rw [hbe]; exact z
   rw [q] at q'; cases q'
   obtain ⟨v,hv⟩:=heo
   exact ⟨v,by rw [hbe]; exact hv⟩
  ·refine (ok b u q).stay (fun c v hc r => k c v ?_ r) (fun c r => by rw [zp (nown c b r)]; exact r) fun c xs r => by rw [zp (ntup c xs r)]; exact r
   rcases hc with rfl | hc
   ·exact hbe
   ·rintro rfl
    rcases he with z | z
    ·exact nown c b hc z
    ·rw [hc] at z; cases z; exact hb rfl
end
structure Un (fs ex : List Addr) (H H' : Hp) (h h' : Heap) : Prop where
 keep : ∀ b o,h.get? b = some o → H b = none → b ∉ fs → b ∉ ex → h'.get? b = some o
 slot : ∀ b o,h.get? b = some o → H b = none → b ∈ fs → b ∉ ex → ∃ sl,h'.get? b = some { o with slots:=sl }
 free : ∀ b o,h.get? b = some o → H b = none → b ∉ ex → H' b = none
 there : ∀ b o,h.get? b = some o → b ∉ ex → ∃ o',h'.get? b = some o'
 tups : ∀ b xs,H b = some (.tup xs) → H' b = some (.tup xs)
 frzs : ∀ b o u,H b = some (.frz o u) → H' b = some (.frz o u)
 tbls : ∀ b ps,H b = some (.tbl ps) → ∃ more,H' b = some (.tbl (ps ++ more))
section
variable {fs fs' ex ex' : List Addr} {H H1 H2 : Hp} {h h1 h2 h' : Heap} {a x e : Addr} {o : HO}
theorem Un.any (u : Un fs ex H H1 h h1) {b : Addr} {ob : Obj} (q : h.get? b = some ob) (n : H b = none) (hx : b ∉ ex) : ∃ sl,h1.get? b = some { ob with slots:=sl }:=by
 by_cases hb : b ∈ fs
 ·exact u.slot b ob q n hb hx
 ·exact ⟨ob.slots,u.keep b ob q n hb hx⟩
theorem Un.kept (k : ∀ b u,h.get? b = some u → h'.get? b = some u) : Un fs ex H H h h' :=
 ⟨fun b ob q _ _ _ => k b ob q,fun b ob q _ _ _ => ⟨ob.slots,k b ob q⟩,fun _ _ _ n _ => n,fun b ob q _ => ⟨ob,k b ob q⟩,fun _ _ q => q,fun _ _ _ q => q,fun _ ps q => ⟨#[],by rw [q]; simp⟩⟩
theorem Un.refl : Un fs ex H H h h:=Un.kept fun _ _ q => q
theorem Un.laid (k : ∀ b u,h.get? b = some u → h'.get? b = some u) (hp : h.objs.size ≤ a) (hn : H a = none) : Un fs ex H (upd H a o) h h' where
 keep:=fun b u q _ _ _ => k b u q
 slot:=fun b u q _ _ _ => ⟨u.slots,k b u q⟩
 free:=fun b u q n _ => by rw [zp (Nat.ne_of_lt (Nat.lt_of_lt_of_le (Heap.lt_size q) hp))]; exact n
 there:=fun b u q _ => ⟨u,k b u q⟩
 tups:=fun b xs q => by rw [zp (zu q hn)]; exact q
 frzs:=fun b u xs q => by rw [zp (zu q hn)]; exact q
 tbls:=fun b ps q => ⟨#[],by rw [zp (zu q hn),q]; simp⟩
theorem Un.write (mu : Mut (H x)) (he : e = x ∨ H e = some (.own x)) (k : ∀ b u,b ≠ e → h.get? b = some u → h'.get? b = some u) (heo : ∃ u,h'.get? e = some u) : Un fs ex H (upd H x o) h h':=by
 have hx : ∀ b,H b = none → b ≠ x:=fun b n z => by subst z; rw [n] at mu; exact mu
 have hb : ∀ b,H b = none → b ≠ e:=fun b n z => by
  subst z
  rcases he with r | r
  ·exact hx b n r
  ·rw [n] at r; cases r
 have hm : ∀ b u,H b = some u → ¬ Mut (some u) → b ≠ x:=fun b u q nm z => by subst z; rw [q] at mu; exact nm mu
 refine ⟨fun b u q n _ _ => k b u (hb b n) q,fun b u q n _ _ => ⟨u.slots,k b u (hb b n) q⟩,fun b u q n _ => by rw [zp (hx b n)]; exact n,fun b u q _ => ?_,
  fun b xs q => by rw [zp (hm b _ q fun z => z)]; exact q,fun b u xs q => by rw [zp (hm b _ q fun z => z)]; exact q,fun b ps q => ⟨#[],by rw [zp (hm b _ q fun z => z),q]; simp⟩⟩
 by_cases hbe : b = e
 ·subst hbe; exact heo
 ·exact ⟨u,k b u hbe q⟩
end
def trk (h : Heap) (H : Hp) : List Addr:=(List.range h.objs.size).filter fun a => (H a).isSome
def zeD (h : Heap) (H : Hp) : Heap:=PySem.W.hideAll h (trk h H)
theorem zhn (h : Heap) (H : Hp) : (zeD h H).objs.size = h.objs.size:=PySem.W.hideAll_size _ _
theorem zii {h : Heap} {H : Hp} {b : Addr} {o : Obj} (e : h.get? b = some o) (n : H b = none) : (zeD h H).get? b = some o :=
 PySem.W.hideAll_get _ e fun hm => by
  have q : (H b).isSome = true:=(List.mem_filter.mp hm).2
  rw [n] at q; simp at q
theorem zjC {h : Heap} {H : Hp} {b : Addr} {o : Obj} (e : (zeD h H).get? b = some o) : h.get? b = some o ∧ H b = none:=by
 have e' : h.get? b = some o:=PySem.W.of_hideAll (trk h H) e
 refine ⟨e',?_⟩
 cases q : H b with
 | none => rfl
 | some x =>
  have hm : b ∈ trk h H:=List.mem_filter.mpr ⟨List.mem_range.mpr (Heap.lt_size e'),by simp [q]⟩
  have z : (zeD h H).get? b = none:=PySem.W.hideAll_none (trk h H) hm
  rw [z] at e; cases e
end L2
namespace L2
open PySem PySem.Spec PyProof.Rows
structure Mod (K : PySem.W.Frag) (mg : Str → Option Value) (base : Heap) : Prop where
 kin : K.In base
 glob : base.Ns mainGlobals mg
 blt : ∃ mb,base.Ns builtinsNs mb ∧ ∀ x : Str,x ≠ "__name__" → mb x = bootBuiltins x
 nolimit : base.NoLimit
structure Cx where
 prog : Program
 w : World
 K : PySem.W.Frag
 mg : Str → Option Value
 base : Heap
 A : Around
 N : List Str
 s₀ : Shared
 H₀ : Hp
 env : Env
 outer : List Env
 stack : List Env
 ex : List Addr
 fn : Str → Bool
 calm : Bool
 pn : List (Addr × Obj)
 xe : Value → Shared → Prop
def frs (l : List Env) : List Addr:=l.filterMap (·.frame)
abbrev Cx.fs (X : Cx) : List Addr:=frs X.outer
def Vis (sc : Scope) (x : Str) : Prop:=sc.names.lookup x = some .local ∨ sc.names.lookup x = some .cell ∨ sc.names.lookup x = some .free
def Loc (sc : Scope) (x : Str) : Prop:=sc.names.lookup x = some .local ∨ sc.names.lookup x = some .cell
def Look (env : Env) (h : Heap) (m : Str → Option Value) (x : Str) (u : Value) : Prop :=
 (env.kindOf x = some .local ∧ m x = some u) ∨ ((env.kindOf x = some .cell ∨ env.kindOf x = some .free) ∧ ∃ c,env.cells.lookup x = some c ∧ h.IsCell c (some u))
structure Cx.Ok (X : Cx) : Prop where
 mod : Mod X.K X.mg X.base
 kind : X.env.scope.kind = .function
 glob : X.env.globals = mainGlobals
 blt : X.env.builtins = builtinsNs
 above : X.s₀.heap.objs.size ≤ X.env.locals
 inj : ∀ x y c,X.env.cells.lookup x = some c → X.env.cells.lookup y = some c → x = y
 has : ∀ x,(X.env.kindOf x = some .cell ∨ X.env.kindOf x = some .free) → ∃ c,X.env.cells.lookup x = some c
 cab : ∀ x c,X.fn x = true → X.env.cells.lookup x = some c → X.s₀.heap.objs.size ≤ c
 hd : X.calm = true → X.A.handled = none
 frames : X.A.frames = some X.stack
 stk : X.stack = X.outer ∨ (X.stack = X.env :: X.outer ∧ X.env.frame = some X.env.locals)
 exf : ∀ b ∈ X.ex,b ≠ X.env.locals ∧ ∀ x c,X.env.cells.lookup x = some c → c ≠ b
 bs : ∀ b o,X.base.get? b = some o → X.s₀.heap.get? b = some o ∧ X.H₀ b = none
 bsz : X.base.objs.size ≤ X.s₀.heap.objs.size
 noex : ∀ b o,X.base.get? b = some o → b ∉ X.ex
 exfs : ∀ b ∈ X.ex,b ∉ X.fs
 funs : X.s₀.heap.FunFrames X.base X.outer
 frf : ∀ b ∈ X.fs,X.H₀ b = none
structure Inv (X : Cx) (pins : List (Addr × Obj)) (σ : List (Option V)) (H : Hp) (s : Shared) : Prop where
 ok : X.Ok
 os : s.os = X.s₀.os
 bare : AllBare s.gens
 base : Un X.fs X.ex X.H₀ H X.s₀.heap s.heap
 loc : ∃ m,s.heap.Ns X.env.locals m ∧ ∀ (i : Nat) (x : Str) (v : V),X.N[i]? = some x → σ[i]? = some (some v) → Vis X.env.scope x → ∃ u,RelV v u ∧ Look X.env s.heap m x u
 cell : ∀ x c,X.env.cells.lookup x = some c → ∃ v,s.heap.IsCell c v
 free : H X.env.locals = none
 freeC : ∀ x c,X.env.cells.lookup x = some c → H c = none
 pin : ∀ p ∈ X.pn ++ pins,s.heap.get? p.1 = some p.2 ∧ H p.1 = none ∧ p.1 ≠ X.env.locals ∧ p.1 ∉ X.fs ∧ ∀ v,p.2.data ≠ .cell v
 hok : HOk X.prog X.w H s.heap
 len : σ.length = X.N.length
section
variable {X : Cx} {pins : List (Addr × Obj)} {σ : List (Option V)} {H H' : Hp} {s : Shared} {h' : Heap}
theorem Cx.Ok.nofr (ok : X.Ok) {b : Addr} {o : Obj} (e : X.base.get? b = some o) : b ∉ X.fs:=fun hb => by
 have:=(ok.funs.mem hb).1
 rw [e] at this; cases this
theorem Inv.bs (I : Inv X pins σ H s) : ∀ b o,X.base.get? b = some o → s.heap.get? b = some o ∧ H b = none:=fun b o e =>
 ⟨I.base.keep b o (I.ok.bs b o e).1 (I.ok.bs b o e).2 (I.ok.nofr e) (I.ok.noex b o e),I.base.free b o (I.ok.bs b o e).1 (I.ok.bs b o e).2 (I.ok.noex b o e)⟩
theorem Inv.bk (I : Inv X pins σ H s) : ∀ b o,X.base.get? b = some o → s.heap.get? b = some o:=fun b o e => (I.bs b o e).1
theorem Inv.mod (I : Inv X pins σ H s) : Mod X.K X.mg X.base:=I.ok.mod
theorem Inv.kIn (I : Inv X pins σ H s) : X.K.In s.heap:=I.ok.mod.kin.keeps I.bk
theorem Inv.lt (I : Inv X pins σ H s) : X.env.locals < s.heap.objs.size:=let ⟨_,hn,_⟩:=I.loc; hn.lt
theorem Inv.sz (I : Inv X pins σ H s) : X.s₀.heap.objs.size ≤ s.heap.objs.size:=Nat.le_trans I.ok.above (Nat.le_of_lt I.lt)
theorem Inv.nofs (I : Inv X pins σ H s) {a : Addr} (h : s.heap.objs.size ≤ a) : a ∉ X.fs:=fun hb => by
 obtain ⟨_,o,ho,_⟩:=I.ok.funs.mem hb
 exact absurd (Nat.lt_of_lt_of_le (Heap.lt_size ho) (Nat.le_trans I.sz h)) (Nat.lt_irrefl _)
theorem Inv.cne (I : Inv X pins σ H s) : ∀ x c,X.env.cells.lookup x = some c → c ≠ X.env.locals:=fun x c e z => by
 obtain ⟨v,o,ho,hd⟩:=I.cell x c e
 obtain ⟨m,⟨o',es,ep,ho',hd',_⟩,_⟩:=I.loc
 rw [z,ho'] at ho; cases ho; rw [hd'] at hd; cases hd
theorem Inv.funs (I : Inv X pins σ H s) : s.heap.FunFrames X.base X.outer:=by
 have all : ∀ (l : List Env),(∀ b ∈ frs l,b ∈ X.fs) → X.s₀.heap.FunFrames X.base l → s.heap.FunFrames X.base l:=by
  intro l
  induction l with
  | nil => intro _ _; trivial
  | cons env r ih =>
   intro hs hl
   obtain ⟨hk,⟨L,o,hf,hn,ho,hd⟩,hr⟩:=hl
   have hL : L ∈ X.fs:=hs L (by unfold frs; rw [List.filterMap_cons,hf]; exact List.mem_cons_self)
   obtain ⟨sl,e⟩:=I.base.slot L o ho (I.ok.frf L hL) hL fun z => I.ok.exfs L z hL
   exact ⟨hk,⟨L,_,hf,hn,e,hd⟩,ih (fun b hb => hs b (by unfold frs; rw [List.filterMap_cons,hf]; exact List.mem_cons_of_mem _ hb)) hr⟩
 exact all X.outer (fun _ hb => hb) I.ok.funs
theorem Inv.stack (I : Inv X pins σ H s) : s.heap.FunFrames X.base X.stack:=by
 rcases I.ok.stk with e | ⟨e,hf⟩
 ·rw [e]; exact I.funs
 ·rw [e]
  obtain ⟨m,hn,_⟩:=I.loc
  refine .cons (by rw [I.ok.kind]; decide) hf hn ?_ I.funs
  exact Heap.get?_none_of_le (Nat.le_trans I.ok.bsz I.ok.above)
theorem Inv.stkSub (I : Inv X pins σ H s) : ∀ b ∈ frs X.stack,b ∈ X.env.locals :: X.fs:=fun b hb => by
 rcases I.ok.stk with e | ⟨e,hf⟩
 ·rw [e] at hb; exact List.mem_cons_of_mem _ hb
 ·rw [e] at hb
  unfold frs at hb
  rw [List.filterMap_cons,hf] at hb
  exact hb
theorem Inv.stkFree (I : Inv X pins σ H s) : ∀ b ∈ frs X.stack,H b = none:=fun b hb => by
 rcases List.mem_cons.mp (I.stkSub b hb) with e | hb
 ·rw [e]; exact I.free
 ·obtain ⟨_,o,ho,_⟩:=I.ok.funs.mem hb
  exact I.base.free b o ho (I.ok.frf b hb) fun z => I.ok.exfs b z hb
theorem Inv.step {g' : Array GenState} {t' : Nat} {d' : Drawn} {ch : List Addr} (I : Inv X pins σ H s)
  (hch : ∀ b ∈ ch,(b ∈ X.ex ∨ X.s₀.heap.objs.size ≤ b) ∧ b ≠ X.env.locals ∧ (∀ x c,X.env.cells.lookup x = some c → c ≠ b) ∧ ∀ p ∈ X.pn ++ pins,p.1 ≠ b)
  (keep : ∀ b o,b ≠ X.env.locals → b ∉ X.fs → b ∉ ch → s.heap.get? b = some o → H b = none → h'.get? b = some o)
  (slot : ∀ b o,b ≠ X.env.locals → b ∈ X.fs → b ∉ ch → s.heap.get? b = some o → H b = none → ∃ sl,h'.get? b = some { o with slots:=sl }) (free : ∀ b o,b ∉ ch → s.heap.get? b = some o → H b = none → H' b = none)
  (there : ∀ b o,b ∉ ch → s.heap.get? b = some o → ∃ o',h'.get? b = some o')
  (tups : ∀ b xs,H b = some (.tup xs) → H' b = some (.tup xs)) (frzs : ∀ b o u,H b = some (.frz o u) → H' b = some (.frz o u)) (tbls : ∀ b ps,H b = some (.tbl ps) → ∃ more,H' b = some (.tbl (ps ++ more)))
  (ns : ∀ m,s.heap.Ns X.env.locals m → h'.Ns X.env.locals m) (hok : HOk X.prog X.w H' h') (hg : AllBare g') :
  Inv X pins σ H' { s with heap:=h',gens:=g',drawn:=d',toks:=t' }:=by
 have neL : ∀ b o,X.s₀.heap.get? b = some o → b ≠ X.env.locals:=fun b o e => Nat.ne_of_lt (Nat.lt_of_lt_of_le (Heap.lt_size e) I.ok.above)
 have neC : ∀ b o,X.s₀.heap.get? b = some o → b ∉ X.ex → b ∉ ch:=fun b o e hx hb => by
  rcases (hch b hb).1 with z | z
  ·exact hx z
  ·exact absurd (Nat.lt_of_lt_of_le (Heap.lt_size e) z) (Nat.lt_irrefl _)
 have cellK : ∀ x c,X.env.cells.lookup x = some c → ∀ v,s.heap.IsCell c v → h'.IsCell c v:=fun x c e v ⟨o,ho,hd⟩ => by
  have nch : c ∉ ch:=fun z => (hch c z).2.2.1 x c e rfl
  by_cases hc : c ∈ X.fs
  ·obtain ⟨sl,q⟩:=slot c o (I.cne x c e) hc nch ho (I.freeC x c e)
   exact ⟨_,q,hd⟩
  ·exact ⟨o,keep c o (I.cne x c e) hc nch ho (I.freeC x c e),hd⟩
 refine ⟨I.ok,I.os,hg,⟨fun b o e n hb hx => ?_,fun b o e n hb hx => ?_,fun b o e n hx => ?_,fun b o e hx => ?_,fun b xs e => tups b xs (I.base.tups b xs e),fun b o xs e => frzs b o xs (I.base.frzs b o xs e),fun b ps e => ?_⟩,?_,fun x c e => ?_,?_,fun x c e => ?_,fun p hp => ?_,hok,I.len⟩
 ·exact keep b o (neL b o e) hb (neC b o e hx) (I.base.keep b o e n hb hx) (I.base.free b o e n hx)
 ·obtain ⟨sl,e1⟩:=I.base.slot b o e n hb hx
  obtain ⟨sl',e2⟩:=slot b _ (neL b o e) hb (neC b o e hx) e1 (I.base.free b o e n hx)
  exact ⟨sl',e2⟩
 ·obtain ⟨o',e1⟩:=I.base.there b o e hx
  exact free b o' (neC b o e hx) e1 (I.base.free b o e n hx)
 ·obtain ⟨o',e1⟩:=I.base.there b o e hx
  exact there b o' (neC b o e hx) e1
 ·obtain ⟨m1,e1⟩:=I.base.tbls b ps e
  obtain ⟨m2,e2⟩:=tbls b _ e1
  exact ⟨m1 ++ m2,by rw [e2,Array.append_assoc]⟩
 ·obtain ⟨m,hn,hl⟩:=I.loc
  refine ⟨m,ns m hn,fun i x v e1 e2 e3 => ?_⟩
  obtain ⟨u,r,l⟩:=hl i x v e1 e2 e3
  refine ⟨u,r,?_⟩
  rcases l with l | ⟨k,c,e,z⟩
  ·exact .inl l
  ·exact .inr ⟨k,c,e,cellK x c e _ z⟩
 ·obtain ⟨v,z⟩:=I.cell x c e
  exact ⟨v,cellK x c e v z⟩
 ·obtain ⟨m,⟨o,_,_,ho,_⟩,_⟩:=I.loc
  exact free _ o (fun z => (hch _ z).2.1 rfl) ho I.free
 ·obtain ⟨v,o,ho,hd⟩:=I.cell x c e
  exact free c o (fun z => (hch c z).2.2.1 x c e rfl) ho (I.freeC x c e)
 ·obtain ⟨e,n,ne,nf,d⟩:=I.pin p hp
  have nch : p.1 ∉ ch:=fun z => (hch p.1 z).2.2.2 p hp rfl
  exact ⟨keep p.1 p.2 ne nf nch e n,free p.1 p.2 nch e n,ne,nf,d⟩
theorem Inv.un {t' : Nat} (I : Inv X pins σ H s) (u : Un X.fs [] H H' s.heap h') (hok : HOk X.prog X.w H' h') : Inv X pins σ H' { s with heap:=h',toks:=t' }:=by
 obtain ⟨m,⟨o,es,ep,ho,r⟩,_⟩:=id I.loc
 obtain ⟨sl,hL⟩:=u.any ho I.free (by simp)
 exact I.step (g':=s.gens) (d':=s.drawn) (ch:=[]) (fun _ z => nomatch z) (fun b o _ hb _ e n => u.keep b o e n hb (by simp)) (fun b o _ hb _ e n => u.slot b o e n hb (by simp)) (fun b o _ e n => u.free b o e n (by simp)) (fun b o _ e => u.there b o e (by simp)) u.tups u.frzs u.tbls (fun m' hm => by
  obtain ⟨o',es',ep',ho',r'⟩:=hm
  rw [ho] at ho'; cases ho'
  exact ⟨_,es',ep',hL,r'⟩) hok I.bare
theorem Inv.call {g' : Array GenState} {t' : Nat} {d' : Drawn} {ch : List Addr} (I : Inv X pins σ H s) (u : Un (frs X.stack) ch H H' s.heap h') (hok : HOk X.prog X.w H' h') (hg : AllBare g')
  (hch : ∀ b ∈ ch,(b ∈ X.ex ∨ X.s₀.heap.objs.size ≤ b) ∧ b ≠ X.env.locals ∧ (∀ x c,X.env.cells.lookup x = some c → c ≠ b) ∧ ∀ p ∈ X.pn ++ pins,p.1 ≠ b) :
  Inv X pins σ H' { s with heap:=h',gens:=g',drawn:=d',toks:=t' }:=by
 obtain ⟨m,⟨o,es,ep,ho,r⟩,_⟩:=id I.loc
 obtain ⟨sl,hL⟩:=u.any ho I.free fun z => (hch _ z).2.1 rfl
 exact I.step (ch:=ch) hch (fun b o hL hb hc e n => u.keep b o e n (fun z => (List.mem_cons.mp (I.stkSub b z)).elim hL hb) hc) (fun b o _ _ hc e n => u.any e n hc) (fun b o hc e n => u.free b o e n hc) (fun b o hc e => u.there b o e hc) u.tups u.frzs u.tbls (fun m' hm => by
  obtain ⟨o',es',ep',ho',r'⟩:=hm
  rw [ho] at ho'; cases ho'
  exact ⟨_,es',ep',hL,r'⟩) hok hg
theorem Inv.turned {t' : Nat} {it : Addr} (I : Inv X pins σ H s) (k : ∀ b o,b ≠ it → s.heap.get? b = some o → h'.get? b = some o) (hn : H it = none) (hL : it ≠ X.env.locals)
  (h1 : it ∈ X.ex ∨ X.s₀.heap.objs.size ≤ it) (h2 : ∀ x c,X.env.cells.lookup x = some c → c ≠ it) (h3 : ∀ p ∈ X.pn ++ pins,p.1 ≠ it) : Inv X pins σ H { s with heap:=h',toks:=t' }:=by
 have nit : ∀ b u,H b = some u → b ≠ it:=fun b u e z => by rw [z,hn] at e; cases e
 refine I.step (g':=s.gens) (d':=s.drawn) (ch:=[it]) (fun b hb => ?_) (fun b o _ _ hc e _ => k b o (fun z => hc (by simp [z])) e) (fun b o _ _ hc e _ => ⟨o.slots,k b o (fun z => hc (by simp [z])) e⟩) (fun _ _ _ _ n => n)
  (fun b o hc e => ⟨o,k b o (fun z => hc (by simp [z])) e⟩) (fun _ _ e => e) (fun _ _ _ e => e) (fun b ps e => ⟨#[],by rw [e]; simp⟩) (fun m hm => ?_) (fun b u e => ?_) I.bare
 ·have e : b = it:=by simpa using hb
  subst e
  exact ⟨h1,hL,h2,h3⟩
 ·obtain ⟨o,es,ep,ho,r⟩:=hm
  exact ⟨o,es,ep,k _ o (Ne.symm hL) ho,r⟩
 ·refine (I.hok b u e).stay (fun c v hc q => k c v ?_ q) (fun _ q => q) fun _ _ q => q
  rcases hc with z | z
  ·rw [z]; exact nit b u e
  ·exact nit c _ z
theorem Inv.tok (I : Inv X pins σ H s) (t : Nat) : Inv X pins σ H { s with toks:=t }:=I.un (h':=s.heap) (t':=t) Un.refl I.hok
theorem Inv.kept {t' : Nat} (I : Inv X pins σ H s) (k : ∀ b u,s.heap.get? b = some u → h'.get? b = some u) : Inv X pins σ H { s with heap:=h',toks:=t' }:=I.un (Un.kept k) (I.hok.kept k)
theorem Inv.laid {a : Addr} {o : HO} {t' : Nat} (I : Inv X pins σ H s) (k : ∀ b u,s.heap.get? b = some u → h'.get? b = some u) (hp : s.heap.objs.size ≤ a) (new : zR X.prog X.w (upd H a o) h' a o) :
  Inv X pins σ (upd H a o) { s with heap:=h',toks:=t' }:=I.un (Un.laid k hp (I.hok.fresh hp)) (I.hok.laid k hp new)
theorem Inv.write {x e : Addr} {o : HO} {t' : Nat} (I : Inv X pins σ H s) (mu : Mut (H x)) (he : e = x ∨ H e = some (.own x)) (k : ∀ b u,b ≠ e → s.heap.get? b = some u → h'.get? b = some u) (heo : ∃ u,h'.get? e = some u)
  (new : zR X.prog X.w (upd H x o) h' x o) : Inv X pins σ (upd H x o) { s with heap:=h',toks:=t' }:=I.un (Un.write mu he k heo) (I.hok.write mu he k heo new)
theorem Inv.weak {σ' : List (Option V)} (I : Inv X pins σ H s) (hl : σ'.length = σ.length) (w : ∀ (i : Nat) v,σ'[i]? = some (some v) → σ[i]? = some (some v)) : Inv X pins σ' H s :=
 ⟨I.ok,I.os,I.bare,I.base,let ⟨m,hn,hl'⟩:=I.loc; ⟨m,hn,fun i x v e1 e2 e3 => hl' i x v e1 (w i v e2) e3⟩,I.cell,I.free,I.freeC,I.pin,I.hok,hl.trans I.len⟩
theorem Inv.pins_of {pins' : List (Addr × Obj)} (I : Inv X pins σ H s) (h : ∀ p ∈ pins',s.heap.get? p.1 = some p.2 ∧ H p.1 = none ∧ p.1 ≠ X.env.locals ∧ p.1 ∉ X.fs ∧ ∀ v,p.2.data ≠ .cell v) : Inv X pins' σ H s :=
 ⟨I.ok,I.os,I.bare,I.base,I.loc,I.cell,I.free,I.freeC,fun p hp => (List.mem_append.mp hp).elim (fun z => I.pin p (List.mem_append_left _ z)) (h p),I.hok,I.len⟩
theorem zdp {N : List Str} (hN : N.Nodup) {i j : Nat} {x : Str} (a : N[i]? = some x) (b : N[j]? = some x) : i = j:=by
 obtain ⟨h1,e1⟩:=List.getElem?_eq_some_iff.mp a
 obtain ⟨h2,e2⟩:=List.getElem?_eq_some_iff.mp b
 exact (List.getElem_inj hN).mp (e1.trans e2.symm)
theorem zcK {M : Model} {A : Around} {E : Value → Shared → Prop} {i : Nat} {x : Str} {v : V} {u : Value} {Q : Unit → Shared → Prop} (I : Inv X pins σ H s) (hN : X.N.Nodup) (hi : X.N[i]? = some x) (hx : Loc X.env.scope x) (r : RelV v u)
  (h : ∀ s',Inv X pins (σ.set i (some v)) H s' → (∃ a,Heap.SameBut a s.heap s'.heap ∧ (a = X.env.locals ∨ X.env.cells.lookup x = some a)) → Q () s') (hf : X.fn x = true ∨ X.env.scope.names.lookup x = some .local:=by first | exact .inl rfl | exact .inr rfl | assumption) : wpAny M A (storeName X.env x u) Q E s:=by
 obtain ⟨m,hn,hl⟩:=id I.loc
 have hcls : (X.env.scope.kind == .class || (X.env.scope.kind == .module && X.env.locals != X.env.globals)) = false:=by rw [I.ok.kind]; rfl
 have hiσ : i < σ.length:=by rw [I.len]; exact (List.getElem?_eq_some_iff.mp hi).1
 have cne:=I.cne
 have tracked : ∀ {a : Addr} {h' : Heap},(∃ o,s.heap.get? a = some o ∧ H a = none) → Heap.SameBut a s.heap h' → HOk X.prog X.w H h':=fun {a h'} ha hs b ob e => by
  obtain ⟨_,_,hfree⟩:=ha
  refine (I.hok b ob e).stay (fun c w' hc q => (hs.2 c ?_).trans q) (fun _ q => q) fun _ _ q => q
  rintro rfl
  rcases hc with rfl | hc
  ·rw [hfree] at e; cases e
  ·rw [hfree] at hc; cases hc
 rcases hx with hk | hk
 ·refine wpAny_storeName_local hk hn (fun h' hn' hs => ?_) hcls
  obtain ⟨oL,_,_,hoL,_⟩:=id hn
  refine h _ ⟨I.ok,I.os,I.bare,⟨fun b o e n hb hx => ?_,fun b o e n hb hx => ?_,I.base.free,fun b o e hx => ?_,I.base.tups,I.base.frzs,I.base.tbls⟩,⟨_,hn',fun j y v' e1 e2 e3 => ?_⟩,fun y c e => ?_,I.free,I.freeC,fun p hp => ?_,tracked ⟨oL,hoL,I.free⟩ hs,by simpa using I.len⟩ ⟨_,hs,.inl rfl⟩
  ·exact (hs.2 b (Nat.ne_of_lt (Nat.lt_of_lt_of_le (Heap.lt_size e) I.ok.above))).trans (I.base.keep b o e n hb hx)
  ·obtain ⟨sl,e1⟩:=I.base.slot b o e n hb hx
   exact ⟨sl,(hs.2 b (Nat.ne_of_lt (Nat.lt_of_lt_of_le (Heap.lt_size e) I.ok.above))).trans e1⟩
  ·obtain ⟨o',e1⟩:=I.base.there b o e hx
   exact ⟨o',(hs.2 b (Nat.ne_of_lt (Nat.lt_of_lt_of_le (Heap.lt_size e) I.ok.above))).trans e1⟩
  ·by_cases hj : j = i
   ·subst hj
    rw [hi] at e1; cases e1
    rw [List.getElem?_set_self hiσ] at e2
    cases e2
    exact ⟨u,r,.inl ⟨hk,by simp⟩⟩
   ·rw [List.getElem?_set_ne (Ne.symm hj)] at e2
    obtain ⟨u',r',q⟩:=hl j y v' e1 e2 e3
    refine ⟨u',r',?_⟩
    rcases q with ⟨k,e⟩ | ⟨k,c,e,z⟩
    ·refine .inl ⟨k,?_⟩
     have : y ≠ x:=fun e => hj (zdp hN e1 (e ▸ hi))
     simp [this,e]
    ·exact .inr ⟨k,c,e,z.sameBut hs (cne y c e)⟩
  ·obtain ⟨w',z⟩:=I.cell y c e
   exact ⟨w',z.sameBut hs (cne y c e)⟩
  ·obtain ⟨e,n,ne,nf,d⟩:=I.pin p hp
   exact ⟨(hs.2 p.1 ne).trans e,n,ne,nf,d⟩
 ·have hfn : X.fn x = true:=by
   rcases hf with z | z
   ·exact z
   ·rw [z] at hk; cases hk
  obtain ⟨c,hc⟩:=I.ok.has x (.inl hk)
  obtain ⟨w',z⟩:=I.cell x c hc
  refine wpAny_storeName_cell I.ok.kind hk hc z (fun h' hc' hs => ?_)
  obtain ⟨oc,hoc,hocd⟩:=id z
  refine h { s with heap:=h' } ⟨I.ok,I.os,I.bare,⟨fun b o e n hb hx => ?_,fun b o e n hb hx => ?_,I.base.free,fun b o e hx => ?_,I.base.tups,I.base.frzs,I.base.tbls⟩,⟨m,hn.sameBut hs (Ne.symm (cne x c hc)),fun j y v' e1 e2 e3 => ?_⟩,fun y c' e => ?_,I.free,I.freeC,fun p hp => ?_,tracked ⟨oc,hoc,I.freeC x c hc⟩ hs,by simpa using I.len⟩ ⟨c,hs,.inr hc⟩
  ·exact (hs.2 b (Nat.ne_of_lt (Nat.lt_of_lt_of_le (Heap.lt_size e) (I.ok.cab x c hfn hc)))).trans (I.base.keep b o e n hb hx)
  ·obtain ⟨sl,e1⟩:=I.base.slot b o e n hb hx
   exact ⟨sl,(hs.2 b (Nat.ne_of_lt (Nat.lt_of_lt_of_le (Heap.lt_size e) (I.ok.cab x c hfn hc)))).trans e1⟩
  ·obtain ⟨o',e1⟩:=I.base.there b o e hx
   exact ⟨o',(hs.2 b (Nat.ne_of_lt (Nat.lt_of_lt_of_le (Heap.lt_size e) (I.ok.cab x c hfn hc)))).trans e1⟩
  ·by_cases hj : j = i
   ·subst hj
    rw [hi] at e1; cases e1
    rw [List.getElem?_set_self hiσ] at e2
    cases e2
    exact ⟨u,r,.inr ⟨.inl hk,c,hc,hc'⟩⟩
   ·rw [List.getElem?_set_ne (Ne.symm hj)] at e2
    obtain ⟨u',r',q⟩:=hl j y v' e1 e2 e3
    refine ⟨u',r',?_⟩
    rcases q with q | ⟨k,c',e,z'⟩
    ·exact .inl q
    ·refine .inr ⟨k,c',e,z'.sameBut hs ?_⟩
     rintro rfl
     exact hj (zdp hN e1 (I.ok.inj _ _ _ e hc ▸ hi))
  ·by_cases hcc : c' = c
   ·subst hcc; exact ⟨_,hc'⟩
   ·obtain ⟨w2,z2⟩:=I.cell y c' e
    exact ⟨w2,z2.sameBut hs hcc⟩
  ·obtain ⟨e,n,ne,nf,d⟩:=I.pin p hp
   refine ⟨(hs.2 p.1 ?_).trans e,n,ne,nf,d⟩
   intro q
   rw [q,hoc] at e
   have q' : oc = p.2:=Option.some.inj e
   exact d w' (by rw [← q']; exact hocd)
theorem zbs {M : Model} {A : Around} {E : Value → Shared → Prop} {i : Nat} {x : Str} {v : V} {u : Value} {Q : Unit → Shared → Prop} (I : Inv X pins σ H s) (hN : X.N.Nodup) (hi : X.N[i]? = some x) (hx : Loc X.env.scope x) (r : RelV v u)
  (h : ∀ s',Inv X pins (σ.set i (some v)) H s' → Q () s') (hf : X.fn x = true ∨ X.env.scope.names.lookup x = some .local:=by first | exact .inl rfl | exact .inr rfl | assumption) : wpAny M A (storeName X.env x u) Q E s :=
 zcK I hN hi hx r (fun s' I' _ => h s' I') hf
theorem Inv.call' {s' : Shared} {ch : List Addr} (I : Inv X pins σ H s) (ho : s'.os = s.os) (u : Un (frs X.stack) ch H H' s.heap s'.heap) (hok : HOk X.prog X.w H' s'.heap) (hg : AllBare s'.gens)
  (hch : ∀ b ∈ ch,(b ∈ X.ex ∨ X.s₀.heap.objs.size ≤ b) ∧ b ≠ X.env.locals ∧ (∀ x c,X.env.cells.lookup x = some c → c ≠ b) ∧ ∀ p ∈ X.pn ++ pins,p.1 ≠ b) : Inv X pins σ H' s':=by
 obtain ⟨h',g',d',t',o'⟩:=s'
 have e : o' = s.os:=ho
 subst e
 exact I.call (g':=g') (t':=t') (d':=d') u hok hg hch
end
abbrev XK:=Value → Option Addr → Hp → Prop
abbrev St:=List (Option V)
abbrev VK:=V → Hp → Prop
abbrev TE:=St → Hp → VK → Prop
abbrev TT:=St → Hp → (Bool → Hp → Prop) → Prop
abbrev TA:=St → Hp → (List V → Hp → Prop) → Prop
structure Ends where
 nx : St → Hp → Prop
 rt : VK
 bk : St → Hp → Prop:=fun _ _ => False
 ct : St → Hp → Prop:=fun _ _ => False
abbrev TS:=Ends → St → Hp → Prop
def EP (X : Cx) (pins : List (Addr × Obj)) (σ : St) (Q : VK) (u : Value) (s' : Shared) : Prop:=∃ v H',Inv X pins σ H' s' ∧ RelV v u ∧ Q v H'
def TP (X : Cx) (pins : List (Addr × Obj)) (σ : St) (Q : Bool → Hp → Prop) (b : Bool) (s' : Shared) : Prop:=∃ H',Inv X pins σ H' s' ∧ Q b H'
def AP (X : Cx) (pins : List (Addr × Obj)) (σ : St) (Q : List V → Hp → Prop) (us : List Value) (s' : Shared) : Prop:=∃ vs H',Inv X pins σ H' s' ∧ zA vs us ∧ Q vs H'
def SP (X : Cx) (pins : List (Addr × Obj)) (D : Ends) (f : Flow) (s' : Shared) : Prop :=
 match f with
 | .next => ∃ σ' H',Inv X pins σ' H' s' ∧ D.nx σ' H'
 | .brk => ∃ σ' H',Inv X pins σ' H' s' ∧ D.bk σ' H'
 | .cont => ∃ σ' H',Inv X pins σ' H' s' ∧ D.ct σ' H'
 | .ret u => ∃ v σ' H',Inv X pins σ' H' s' ∧ RelV v u ∧ D.rt v H'
def PE (X : Cx) (e : Expr) (t : TE) : Prop :=
 ∀ (pins : List (Addr × Obj)) (s : Shared) (σ : St) (H : Hp) (Q : VK),Inv X pins σ H s → t σ H Q → wpAny (model X.prog X.w) X.A (eval e X.env) (EP X pins σ Q) X.xe s
def PT (X : Cx) (e : Expr) (t : TT) : Prop :=
 ∀ (pins : List (Addr × Obj)) (s : Shared) (σ : St) (H : Hp) (Q : Bool → Hp → Prop),Inv X pins σ H s → t σ H Q → wpAny (model X.prog X.w) X.A (isTrue e X.env (eval e X.env)) (TP X pins σ Q) X.xe s
def PW (X : Cx) (e : Expr) (t : TT) : Prop :=
 ∀ (whole : Sem Value) (pins : List (Addr × Obj)) (s : Shared) (σ : St) (H : Hp) (Q : Bool → Hp → Prop),Inv X pins σ H s → t σ H Q → wpAny (model X.prog X.w) X.A (isTrue e X.env whole) (TP X pins σ Q) X.xe s
theorem PW.pt {X : Cx} {e : Expr} {t : TT} (h : PW X e t) : PT X e t:=h _
def PA (X : Cx) (es : List Expr) (t : TA) : Prop :=
 ∀ (pos : Pos) (pins : List (Addr × Obj)) (s : Shared) (σ : St) (H : Hp) (Q : List V → Hp → Prop),Inv X pins σ H s → t σ H Q → wpAny (model X.prog X.w) X.A (spliced (backTo pos (starEach es X.env))) (AP X pins σ Q) X.xe s
def PS (X : Cx) (st : Stmt) (t : TS) : Prop :=
 ∀ (pins : List (Addr × Obj)) (s : Shared) (σ : St) (H : Hp) (D : Ends),Inv X pins σ H s → t D σ H → wpAny (model X.prog X.w) X.A (exec st X.env) (SP X pins D) X.xe s
def PSs (X : Cx) (st : List Stmt) (t : TS) : Prop :=
 ∀ (pins : List (Addr × Obj)) (s : Shared) (σ : St) (H : Hp) (D : Ends),Inv X pins σ H s → t D σ H → wpAny (model X.prog X.w) X.A (execs st X.env) (SP X pins D) X.xe s
theorem thn {α : Type} {t : Sem α} {Q Q' : α → Shared → Prop} {M : Model} {A : Around} {E : Value → Shared → Prop} {s : Shared} (h : wpAny M A t Q E s) (hQ : ∀ a s,Q a s → Q' a s) : wpAny M A t Q' E s:=wpAny_mono h hQ fun _ _ x => x
end L2
namespace L2
open PySem PySem.Spec PyProof.Rows
section
variable {X : Cx}
def zlx (i : Nat) : TE:=fun σ H Q => ∃ v,σ[i]? = some (some v) ∧ Q v H
def tC (v : V) : TE:=fun _ H Q => Q v H
theorem zkG {i : Nat} {x : Str} {pos : Pos} (hN : X.N[i]? = some x) (hv : Vis X.env.scope x) (hd : (x == ("__debug__" : Str)) = false:=by decide) (hcd : (x == ("__classdict__" : Str)) = false:=by decide) : PE X (.Name x pos) (zlx i):=by
 intro pins s σ H Q I h
 obtain ⟨v,e,h⟩:=h
 obtain ⟨m,hn,hl⟩:=I.loc
 obtain ⟨u,r,l⟩:=hl i x v hN e hv
 have fin : EP X pins σ Q u s:=⟨v,H,I,r,h⟩
 rcases l with ⟨hk,hm⟩ | ⟨hk,c,hc,hcell⟩
 ·exact wpAny_Name (wpAny_loadName_local I.ok.kind hk hn hm fin) hd
 ·rcases hk with hk | hk
  ·exact wpAny_Name (wpAny_loadName_cell I.ok.kind hk hc hcell fin) hd
  ·exact wpAny_Name (wpAny_loadName_free I.ok.kind hk hc hcell fin hcd) hd
theorem zh {i j pos} : PE X (.Constant (.int i) j pos) (tC (.int i)):=fun _ _ _ H _ I h => wpAny_Constant_int ⟨.int i,H,I.tok _,⟨_,rfl⟩,h⟩
theorem zcr {b j pos} : PE X (.Constant (.bool b) j pos) (tC (.bl b)):=fun _ _ _ H _ I h => Constant_bool ⟨.bl b,H,I,rfl,h⟩
theorem zbO {j pos} : PE X (.Constant .none j pos) (tC .non):=fun _ _ _ H _ I h => Constant_none ⟨.non,H,I,rfl,h⟩
theorem zdq {x j pos} : PE X (.Constant (.str x) j pos) (tC (.str x)):=fun _ _ _ H _ I h => Calls.Constant_str ⟨.str x,H,I.tok _,⟨_,rfl⟩,h⟩
def Gl (X : Cx) (x : Str) : Prop:=X.env.kindOf x = some .globalImplicit
theorem zbY {E : Value → Shared → Prop} {pins : List (Addr × Obj)} {s : Shared} {σ : St} {H : Hp} {x : Str} {u : Value} {pos : Pos} {Q : Value → Shared → Prop} (I : Inv X pins σ H s) (hg : Gl X x) (hm : X.mg x = some u) (h : Q u s)
  (hd : (x == ("__debug__" : Str)) = false:=by decide) : wpAny (model X.prog X.w) X.A (eval (.Name x pos) X.env) Q E s :=
 Calls.Name_function_global I.ok.kind hg (Calls.loadGlobal_global (by rw [I.ok.glob]; exact I.mod.glob.keeps I.bk) hm h) hd
theorem zbm {E : Value → Shared → Prop} {pins : List (Addr × Obj)} {s : Shared} {σ : St} {H : Hp} {x : Str} {u : Value} {pos : Pos} {Q : Value → Shared → Prop} (I : Inv X pins σ H s) (hg : Gl X x) (hm : X.mg x = none) (hv : bootBuiltins x = some u) (h : Q u s)
  (hn : x ≠ "__name__":=by decide) (hd : (x == ("__debug__" : Str)) = false:=by decide) : wpAny (model X.prog X.w) X.A (eval (.Name x pos) X.env) Q E s:=by
 obtain ⟨mb,h1,h2⟩:=I.mod.blt
 exact Calls.Name_function_global I.ok.kind hg (Calls.loadGlobal_builtin (by rw [I.ok.glob]; exact I.mod.glob.keeps I.bk) hm (by rw [I.ok.blt]; exact h1.keeps I.bk) ((h2 x hn).trans hv) h) hd
theorem zaY {x : Str} {v : V} {u : Value} {pos : Pos} (hg : Gl X x) (hm : X.mg x = some u) (r : RelV v u) (hd : (x == ("__debug__" : Str)) = false:=by decide) : PE X (.Name x pos) (tC v) :=
 fun _ _ _ H _ I h => zbY I hg hm ⟨v,H,I,r,h⟩ hd
theorem zc6 {x : Str} {v : V} {u : Value} {pos : Pos} (hg : Gl X x) (hm : X.mg x = none) (hv : bootBuiltins x = some u) (r : RelV v u) (hn : x ≠ "__name__":=by decide) (hd : (x == ("__debug__" : Str)) = false:=by decide) : PE X (.Name x pos) (tC v) :=
 fun _ _ _ H _ I h => zbm I hg hm hv ⟨v,H,I,r,h⟩ hn hd
variable {a b : Expr} {ta tb : TE} {pos : Pos}
def tB (t : TE) : TT:=fun σ H Q => t σ H fun x H1 => ∃ c,x = .bl c ∧ Q c H1
theorem zf9 {e : Expr} {t : TE} (h : PE X e t) (he : ∀ whole,isTrue e X.env whole = (do let v ← whole; standAt e.pos; holding [v] (truthy v)):=by intro _; rfl) : PT X e (tB t):=by
 intro pins s σ H Q I hw
 refine isTrue_plain (thn (h pins s σ H _ I hw) fun v s1 ⟨x,H1,I1,r1,q1⟩ => ?_) (he _)
 obtain ⟨d,rfl,q⟩:=q1
 cases r1
 exact wpAny_truthy_bool ⟨H1,I1,q⟩
variable {tA tB' : TT} {rest : List Expr}
def zl6 (t u : TT) : TT:=fun σ H Q => t σ H fun c H1 => if c = true then u σ H1 Q else Q false H1
def tOr (t u : TT) : TT:=fun σ H Q => t σ H fun c H1 => if c = true then Q true H1 else u σ H1 Q
def zl7 (t : TT) : TT:=fun σ H Q => t σ H fun c H1 => Q (!c) H1
theorem zgG (ha : PT X a tA) : PW X (.BoolOp .And [a] pos) tA:=by
 intro wh pins s σ H Q I h
 refine isTrue_and (thn (ha pins s σ H Q I h) fun c s1 e => ?_)
 cases c with
 | true => exact isTrue_and_nil e
 | false => exact e
theorem zij (ha : PT X a tA) : PW X (.BoolOp .Or [a] pos) tA:=by
 intro wh pins s σ H Q I h
 refine isTrue_or (thn (ha pins s σ H Q I h) fun c s1 e => ?_)
 cases c with
 | false => exact isTrue_or_nil e
 | true => exact e
theorem zik (ha : PT X a tA) (hb : PW X (.BoolOp .And (b :: rest) pos) tB') : PW X (.BoolOp .And (a :: b :: rest) pos) (zl6 tA tB'):=by
 intro wh pins s σ H Q I h
 refine isTrue_and (thn (ha pins s σ H _ I h) fun c s1 ⟨H1,I1,q1⟩ => ?_)
 cases c with
 | true => exact hb wh pins s1 σ H1 Q I1 q1
 | false => exact ⟨H1,I1,q1⟩
theorem zil (ha : PT X a tA) (hb : PW X (.BoolOp .Or (b :: rest) pos) tB') : PW X (.BoolOp .Or (a :: b :: rest) pos) (tOr tA tB'):=by
 intro wh pins s σ H Q I h
 refine isTrue_or (thn (ha pins s σ H _ I h) fun c s1 ⟨H1,I1,q1⟩ => ?_)
 cases c with
 | true => exact ⟨H1,I1,q1⟩
 | false => exact hb wh pins s1 σ H1 Q I1 q1
theorem zga (ha : PT X a tA) : PT X (.UnaryOp .Not a pos) (zl7 tA):=by
 intro pins s σ H Q I h
 exact isTrue_not (ha pins s σ H (fun c H1 => Q (!c) H1) I h)
def zly (ta tb : TE) : TE:=fun σ H Q => ta σ H fun x H1 => ∃ c,x = .bl c ∧ if c = true then tb σ H1 Q else Q (.bl false) H1
def zlz (ta : TE) : TE:=fun σ H Q => ta σ H fun x H1 => ∃ c,x = .bl c ∧ Q (.bl (!c)) H1
theorem zkH {op} {t : TE} (h : PE X a t) : PE X (.BoolOp op [a] pos) t:=fun pins s σ H Q I hw => BoolOp_one (h pins s σ H Q I hw)
theorem zkI (ha : PE X a ta) (hb : PE X (.BoolOp .And (b :: rest) pos) tb) : PE X (.BoolOp .And (a :: b :: rest) pos) (zly ta tb):=by
 intro pins s σ H Q I h
 refine BoolOp_and (thn (ha pins s σ H _ I h) fun v s1 ⟨x,H1,I1,r1,q1⟩ => ?_)
 obtain ⟨c,rfl,q1⟩:=q1
 cases r1
 refine wpAny_truthy_bool ?_
 cases c with
 | true => exact hb pins s1 σ H1 Q I1 q1
 | false => exact ⟨.bl false,H1,I1,rfl,q1⟩
theorem zkJ (ha : PE X a ta) : PE X (.UnaryOp .Not a pos) (zlz ta):=by
 intro pins s σ H Q I h
 refine UnaryOp_ (thn (ha pins s σ H _ I h) fun v s1 ⟨x,H1,I1,r1,q1⟩ => ?_)
 obtain ⟨c,rfl,q1⟩:=q1
 cases r1
 exact not_of (wpAny_truthy_bool ⟨.bl (!c),H1,I1,rfl,q1⟩)
def tIf (t : TT) (ta tb : TE) : TE:=fun σ H Q => t σ H fun c H1 => if c = true then ta σ H1 Q else tb σ H1 Q
theorem zim {c : Expr} (hc : PT X c tA) (ha : PE X a ta) (hb : PE X b tb) : PE X (.IfExp c a b pos) (tIf tA ta tb):=by
 intro pins s σ H Q I h
 refine wpAny_IfExp (thn (hc pins s σ H _ I h) fun d s1 ⟨H1,I1,q1⟩ => ?_)
 cases d with
 | true => exact ha pins s1 σ H1 Q I1 q1
 | false => exact hb pins s1 σ H1 Q I1 q1
end
end L2
namespace L2
open PySem PySem.Spec PyProof.Rows
def SqL (K : PySem.W.Frag) (H : Hp) (a : Addr) (xs : List V) : Prop :=
 Rd H a (.lst xs) ∨
  ∃ (o : Obj) (its : Array Value) (n : Nat),K.lookup a = some o ∧ o.cls = .type "list" ∧ o.dict = none ∧ o.data = .seq its n ∧ its.size ≤ sizeLine ∧ zA xs its.toList
def SqT (K : PySem.W.Frag) (H : Hp) (a : Addr) (xs : List V) : Prop :=
 Rd H a (.tup xs) ∨
  ∃ (o : Obj) (its : Array Value) (n : Nat),K.lookup a = some o ∧ o.cls = .type "tuple" ∧ o.data = .seq its n ∧ its.size ≤ sizeLine ∧ zA xs its.toList
def zl8 : Value → Option V
 | .none => some .non
 | .bool b => some (.bl b)
 | .int i _ => some (.int i)
 | .str x _ => some (.str x)
 | .bytes b _ => some (.byt b)
 | .float b _ => some (.flt b)
 | .ref a => some (.ref a)
 | .type n => some (.ty n)
 | _ => none
theorem RelV.abs {x : V} {u : Value} (r : RelV x u) : zl8 u = some x:=by
 cases x with
 | non => cases r; rfl
 | bl _ => cases r; rfl
 | int _ => obtain ⟨t,rfl⟩:=r; rfl
 | str _ => obtain ⟨t,rfl⟩:=r; rfl
 | byt _ => obtain ⟨t,rfl⟩:=r; rfl
 | flt _ => obtain ⟨t,rfl⟩:=r; rfl
 | ref _ => cases r; rfl
 | ty _ => cases r; rfl
theorem RelV.inj {x y : V} {u : Value} (r : RelV x u) (q : RelV y u) : x = y:=Option.some.inj (r.abs.symm.trans q.abs)
theorem zA.inj : ∀ {xs ys : List V} {us : List Value},zA xs us → zA ys us → xs = ys
 | _,_,_,.nil,.nil => rfl
 | _,_,_,.cons r t,.cons r' t' => by rw [r.inj r',zA.inj t t']
section
variable {X : Cx} {pins : List (Addr × Obj)} {σ : St} {H : Hp} {s : Shared} {a : Addr} {xs ys : List V}
theorem SqL.of {K : PySem.W.Frag} (h : H a = some (.lst xs)) : SqL K H a xs:=.inl (.inl h)
theorem SqT.of {K : PySem.W.Frag} (h : H a = some (.tup xs)) : SqT K H a xs:=.inl (.inl h)
theorem Inv.list (I : Inv X pins σ H s) (h : SqL X.K H a xs) : ∃ its : List Value,zA xs its ∧ PlainL s.heap a its.toArray ∧ xs.length ≤ sizeLine:=by
 rcases h with h | ⟨o,its,n,hk,hc,hd,hs,hz,r⟩
 ·obtain ⟨z,its,n,r,e⟩:=h.ok I.hok
  exact ⟨its,r,⟨_,n,e,rfl,rfl,rfl⟩,z⟩
 ·refine ⟨its.toList,r,⟨o,n,I.kIn a o hk,hc,hd,by simpa using hs⟩,?_⟩
  have e:=r.length
  simp only [Array.length_toList] at e
  omega
theorem Inv.tuple (I : Inv X pins σ H s) (h : SqT X.K H a xs) : ∃ its : List Value,zA xs its ∧ IsTup s.heap a its.toArray ∧ xs.length ≤ sizeLine:=by
 rcases h with h | ⟨o,its,n,hk,hc,hs,hz,r⟩
 ·obtain ⟨z,its,r,p⟩:=h.ok I.hok
  exact ⟨its,r,p,z⟩
 ·refine ⟨its.toList,r,⟨o,I.kIn a o hk,hc,n,by simpa using hs⟩,?_⟩
  have e:=r.length
  simp only [Array.length_toList] at e
  omega
theorem Inv.list_inj (I : Inv X pins σ H s) (h : SqL X.K H a xs) (h' : SqL X.K H a ys) : xs = ys:=by
 obtain ⟨its,r,⟨o,n,e,_,_,d⟩,_⟩:=I.list h
 obtain ⟨its',r',⟨o',n',e',_,_,d'⟩,_⟩:=I.list h'
 rw [e] at e'; cases e'
 rw [d] at d'
 injection d' with d1 _
 have : its = its':=by simpa using congrArg Array.toList d1
 subst this
 exact r.inj r'
theorem Inv.tuple_inj (I : Inv X pins σ H s) (h : SqT X.K H a xs) (h' : SqT X.K H a ys) : xs = ys:=by
 obtain ⟨its,r,⟨o,e,_,n,d⟩,_⟩:=I.tuple h
 obtain ⟨its',r',⟨o',e',_,n',d'⟩,_⟩:=I.tuple h'
 rw [e] at e'; cases e'
 rw [d] at d'
 injection d' with d1 _
 have : its = its':=by simpa using congrArg Array.toList d1
 subst this
 exact r.inj r'
end
abbrev Cx.wish (X : Cx) (E : Value → Shared → Prop) : Cx:={ X with xe:=E }
abbrev Cx.nox (X : Cx) : Cx:=X.wish fun _ _ => False
theorem Cx.Ok.wish {X : Cx} (ok : X.Ok) (E : Value → Shared → Prop) : (X.wish E).Ok :=
 ⟨ok.mod,ok.kind,ok.glob,ok.blt,ok.above,ok.inj,ok.has,ok.cab,ok.hd,ok.frames,ok.stk,ok.exf,ok.bs,ok.bsz,ok.noex,ok.exfs,ok.funs,ok.frf⟩
theorem Cx.Ok.unwish {X : Cx} {E : Value → Shared → Prop} (ok : (X.wish E).Ok) : X.Ok :=
 ⟨ok.mod,ok.kind,ok.glob,ok.blt,ok.above,ok.inj,ok.has,ok.cab,ok.hd,ok.frames,ok.stk,ok.exf,ok.bs,ok.bsz,ok.noex,ok.exfs,ok.funs,ok.frf⟩
section
variable {X : Cx} {pins : List (Addr × Obj)} {σ : St} {H : Hp} {s : Shared} {E : Value → Shared → Prop}
theorem Inv.wish (I : Inv X pins σ H s) (E : Value → Shared → Prop) : Inv (X.wish E) pins σ H s:=⟨I.ok.wish E,I.os,I.bare,I.base,I.loc,I.cell,I.free,I.freeC,I.pin,I.hok,I.len⟩
theorem Inv.unwish (I : Inv (X.wish E) pins σ H s) : Inv X pins σ H s:=⟨I.ok.unwish,I.os,I.bare,I.base,I.loc,I.cell,I.free,I.freeC,I.pin,I.hok,I.len⟩
theorem SP.unwish {D : Ends} {f : Flow} {s' : Shared} (h : SP (X.wish E) pins D f s') : SP X pins D f s':=by
 cases f with
 | next => obtain ⟨σ',H',I,q⟩:=h; exact ⟨σ',H',I.unwish,q⟩
 | brk => obtain ⟨σ',H',I,q⟩:=h; exact ⟨σ',H',I.unwish,q⟩
 | cont => obtain ⟨σ',H',I,q⟩:=h; exact ⟨σ',H',I.unwish,q⟩
 | ret u => obtain ⟨v,σ',H',I,r,q⟩:=h; exact ⟨v,σ',H',I.unwish,r,q⟩
theorem PSs.nox {st : List Stmt} {t : TS} (h : PSs X.nox st t) : PSs X st t:=fun pins s σ H D I hw =>
 wpAny_mono (h pins s σ H D (I.wish _) hw) (fun _ _ q => q.unwish) fun _ _ z => False.elim z
end
section
variable {X : Cx} {st : Stmt} {rest : List Stmt} {t u : TS} {e : Expr} {te : TE} {pos : Pos}
def zlA : TS:=fun D σ H => D.nx σ H
def zkK (t u : TS) : TS:=fun D σ H => t { D with nx:=u D } σ H
theorem zaq : PSs X [] zlA:=fun _ _ σ H _ I h => wpAny_execs_nil ⟨σ,H,I,h⟩
theorem zf (h1 : PS X st t) (h2 : PSs X rest u) : PSs X (st :: rest) (zkK t u):=by
 intro pins s σ H D I h
 refine wpAny_execs_cons (thn (h1 pins s σ H { D with nx:=u D } I h) fun f s1 q => ?_)
 cases f with
 | next =>
  obtain ⟨σ',H',I',q⟩:=q
  exact h2 pins s1 σ' H' D I' q
 | ret v => exact q
 | brk => exact q
 | cont => exact q
theorem zm (h1 : PS X st t) : PSs X [st] t:=by
 intro pins s σ H D I h
 refine wpAny_execs_cons (thn (h1 pins s σ H D I h) fun f s1 q => ?_)
 cases f with
 | next => exact wpAny_execs_nil q
 | ret v => exact q
 | brk => exact q
 | cont => exact q
theorem Inv.quiet {pins : List (Addr × Obj)} {σ : St} {H : Hp} {s : Shared} (I : Inv X pins σ H s) : interactive X.env = false:=by simp [interactive,I.ok.kind]
def zlB (te : TE) : TS:=fun D σ H => te σ H fun _ H1 => D.nx σ H1
theorem zbZ (he : PE X e te) (hs : swapsWith e none pos.line X.env = pure false:=by rfl) : PS X (.Expr e pos) (zlB te):=by
 intro pins s σ H D I h
 exact wpAny_Expr_any (thn (he pins s σ H _ I h) fun v s1 ⟨x,H1,I1,r1,q1⟩ => ⟨σ,H1,I1,q1⟩) I.quiet hs
def zl9 (te : TE) : TS:=fun D σ H => te σ H D.rt
theorem zG (he : PE X e te) : PS X (.Return (some e) pos) (zl9 te):=by
 intro pins s σ H D I h
 exact wpAny_Return_some (thn (he pins s σ H _ I h) fun v s1 ⟨x,H1,I1,r1,q1⟩ => ⟨x,σ,H1,I1,r1,q1⟩)
def zma (c : TT) (t u : TS) : TS:=fun D σ H => c σ H fun b H1 => if b = true then t D σ H1 else u D σ H1
theorem za7 {c : Expr} {a b : List Stmt} {tc : TT} (hc : PT X c tc) (ha : PSs X a t) (hb : PSs X b u) : PS X (.If c a b pos) (zma tc t u):=by
 intro pins s σ H D I h
 refine wpAny_If (thn (hc pins s σ H _ I h) fun d s1 ⟨H1,I1,q1⟩ => ?_)
 cases d with
 | true => exact ha pins s1 σ H1 D I1 q1
 | false => exact hb pins s1 σ H1 D I1 q1
end
abbrev TG:=V → St → Hp → (St → Hp → Prop) → Prop
abbrev TGs:=List V → St → Hp → (St → Hp → Prop) → Prop
def PG (X : Cx) (target : Expr) (t : TG) : Prop :=
 ∀ (pins : List (Addr × Obj)) (s : Shared) (σ : St) (H : Hp) (v : V) (u : Value) (Q : St → Hp → Prop),Inv X pins σ H s → RelV v u → t v σ H Q →
  wpAny (model X.prog X.w) X.A (assign target X.env u) (fun _ s' => ∃ σ' H',Inv X pins σ' H' s' ∧ Q σ' H') X.xe s
def PGs (X : Cx) (ts : List Expr) (t : TGs) : Prop :=
 ∀ (pins : List (Addr × Obj)) (s : Shared) (σ : St) (H : Hp) (vs : List V) (us : List Value) (Q : St → Hp → Prop),Inv X pins σ H s → zA vs us → t vs σ H Q →
  wpAny (model X.prog X.w) X.A (assignInOrder ((assignEach ts X.env).map (·.2)) us) (fun _ s' => ∃ σ' H',Inv X pins σ' H' s' ∧ Q σ' H') X.xe s
abbrev zkL:=V → V → V → Hp → (Hp → Prop) → Prop
def zlC (X : Cx) (t : zkL) : Prop :=
 ∀ (pins : List (Addr × Obj)) (s : Shared) (σ : St) (H : Hp) (o i v : V) (ov iv u : Value) (Q : Hp → Prop),Inv X pins σ H s → RelV o ov → RelV i iv → RelV v u → t o i v H Q →
  wpAny (model X.prog X.w) X.A (setItem ov iv u) (fun _ s' => ∃ H',Inv X pins σ H' s' ∧ Q H') X.xe s
abbrev TIp:=V → V → Hp → VK → Prop
def PIp (X : Cx) (op : Operator) (t : TIp) : Prop :=
 ∀ (pins : List (Addr × Obj)) (s : Shared) (σ : St) (H : Hp) (x y : V) (v u : Value) (Q : VK),Inv X pins σ H s → RelV x v → RelV y u → t x y H Q →
  wpAny (model X.prog X.w) X.A (inplaceOp op v u) (EP X pins σ Q) X.xe s
section
variable {X : Cx} {pos : Pos}
def zaz (i : Nat) : TG:=fun v σ H Q => Q (σ.set i (some v)) H
theorem zj {i : Nat} {x : Str} (hN : X.N.Nodup) (hi : X.N[i]? = some x) (hx : Loc X.env.scope x) (hf : X.fn x = true ∨ X.env.scope.names.lookup x = some .local:=by first | exact .inl rfl | exact .inr rfl | assumption) : PG X (.Name x pos) (zaz i):=by
 intro pins s σ H v u Q I r h
 exact wpAny_assign_Name (zbs I hN hi hx r (fun s' I' => ⟨_,H,I',h⟩) hf)
def zho : TGs:=fun vs σ H Q => vs = [] ∧ Q σ H
def zcc (t : TG) (u : TGs) : TGs:=fun vs σ H Q => ∃ v r,vs = v :: r ∧ t v σ H fun σ' H' => u r σ' H' Q
theorem z9 : PGs X [] zho:=by
 intro pins s σ H vs us Q I r h
 obtain ⟨e,h⟩:=h
 subst e
 cases r
 exact assignInOrder_nil ⟨σ,H,I,h⟩
theorem zq {e : Expr} {es : List Expr} {t : TG} {u : TGs} (h1 : PG X e t) (h2 : PGs X es u)
  (hs : (assignEach (e :: es) X.env).map (·.2) = assign e X.env :: (assignEach es X.env).map (·.2):=by rfl) : PGs X (e :: es) (zcc t u):=by
 intro pins s σ H vs us Q I r h
 obtain ⟨v,vr,e1,h⟩:=h
 subst e1
 cases r with
 | cons r rr =>
  rw [hs]
  refine assignInOrder_cons (thn (h1 pins s σ H _ _ _ I r h) fun _ s1 ⟨σ1,H1,I1,q1⟩ => ?_)
  exact h2 pins s1 σ1 H1 _ _ Q I1 rr q1
def zgb (K : PySem.W.Frag) (n : Nat) (t : TGs) : TG:=fun v σ H Q => ∃ a xs,v = .ref a ∧ SqT K H a xs ∧ xs.length = n ∧ t xs σ H Q
theorem zbA {es : List Expr} {k : Nat} {t : TGs} {n : Nat} (hc : X.calm = true) (h : PGs X es t)
  (hn : (assignEach es X.env).length = n:=by rfl) (hst : (assignEach es X.env).findIdx? (·.1) = none:=by rfl) : PG X (.Tuple es k pos) (zgb X.K n t):=by
 intro pins s σ H v u Q I r hw
 obtain ⟨a,xs,e1,hq,hl,hw⟩:=hw
 subst e1
 cases r
 obtain ⟨its,rv,ht,hz⟩:=I.tuple hq
 refine assign_Tuple_tuple (I.ok.hd hc) ht (by simp [hn,← hl,rv.length]) hst fun h' hx => ?_
 have I1 : Inv X pins σ H { s with heap:=h' }:=I.kept (t':=s.toks) fun b o e => hx b o (Nat.ne_of_lt (Heap.lt_size e)) e
 exact h pins _ σ H xs _ Q I1 (by simpa using rv) hw
def zmb (to ti : TE) (t : zkL) : TG:=fun v σ H Q => to σ H fun o H1 => ti σ H1 fun i H2 => t o i v H2 fun H3 => Q σ H3
theorem zkM {o i : Expr} {to ti : TE} {t : zkL} (ho : PE X o to) (hi : PE X i ti) (hs : zlC X t)
  (ha : ∀ v,assign (.Subscript o i pos) X.env v = (do
   let ov ← holding [v] (eval o X.env)
   let iv ← holding [v,ov] (eval i X.env)
   standAt pos
   holding [v,ov,iv] (setItem ov iv v)
   release [v,ov,iv] []):=by intro _; rfl) : PG X (.Subscript o i pos) (zmb to ti t):=by
 intro pins s σ H v u Q I r h
 rw [ha]
 refine wpAny_bind (wpAny_holding (thn (ho pins s σ H _ I h) fun ov s1 ⟨x,H1,I1,r1,q1⟩ => ?_))
 refine wpAny_bind (wpAny_holding (thn (hi pins s1 σ H1 _ I1 q1) fun iv s2 ⟨y,H2,I2,r2,q2⟩ => ?_))
 refine wpAny_bind (wpAny_standAt (wpAny_bind (wpAny_holding (thn (hs pins s2 σ H2 x y v ov iv u _ I2 r1 r2 r q2) fun _ s3 ⟨H3,I3,q3⟩ => ?_))))
 exact wpAny_release ⟨σ,H3,I3,q3⟩
def zdU (te : TE) (g : TG) : TS:=fun D σ H => te σ H fun x H1 => g x σ H1 D.nx
theorem zcj {tg e : Expr} {te : TE} {g : TG} (he : PE X e te) (hg : PG X tg g) (hs : swapsWithSole [tg] e pos.line X.env = pure false:=by rfl) (hw : swappedStores [tg] e X.env = pure none:=by rfl)
  (h1 : (assignEach [tg] X.env).map (·.2) = [assign tg X.env]:=by rfl) : PS X (.Assign [tg] e pos) (zdU te g):=by
 intro pins s σ H D I h
 refine wpAny_Assign_stores (thn (he pins s σ H _ I h) fun v s1 ⟨x,H1,I1,r1,q1⟩ => ?_) hs hw
 rw [h1]
 exact thn (hg pins s1 σ H1 x v _ I1 r1 q1) fun _ s2 q => q
theorem zn {i : Nat} {x : Str} {e : Expr} {te : TE} {pos' : Pos} (hN : X.N.Nodup) (hi : X.N[i]? = some x) (hx : Loc X.env.scope x) (he : PE X e te) (hs : swapsWith e (some (.Name x pos')) pos.line X.env = pure false:=by rfl) (hf : X.fn x = true ∨ X.env.scope.names.lookup x = some .local:=by first | exact .inl rfl | exact .inr rfl | assumption) :
  PS X (.Assign [.Name x pos'] e pos) (zdU te (zaz i)):=by
 intro pins s σ H D I h
 refine wpAny_Assign_Name (thn (he pins s σ H _ I h) fun v s1 ⟨y,H1,I1,r1,q1⟩ => ?_) hs
 exact zbs I1 hN hi hx r1 (fun s2 I2 => ⟨_,H1,I2,q1⟩) hf
def zmc (i : Nat) (te : TE) (ti : TIp) : TS:=fun D σ H => ∃ x,σ[i]? = some (some x) ∧ te σ H fun y H1 => ti x y H1 fun z H2 => D.nx (σ.set i (some z)) H2
theorem zkN {i : Nat} {x : Str} {e : Expr} {te : TE} {op : Operator} {ti : TIp} {pos' : Pos} (hN : X.N.Nodup) (hi : X.N[i]? = some x) (hx : Loc X.env.scope x) (he : PE X e te) (ho : PIp X op ti) (hf : X.fn x = true ∨ X.env.scope.names.lookup x = some .local:=by first | exact .inl rfl | exact .inr rfl | assumption) :
  PS X (.AugAssign (.Name x pos') op e pos) (zmc i te ti):=by
 intro pins s σ H D I h
 obtain ⟨v,e1,h⟩:=h
 obtain ⟨m,hn,hl⟩:=I.loc
 have vis : Vis X.env.scope x:=by rcases hx with k | k; exact .inl k; exact .inr (.inl k)
 obtain ⟨u,r,l⟩:=hl i x v hi e1 vis
 refine wpAny_AugAssign_Name ?_
 have go : wpAny (model X.prog X.w) X.A (eval e X.env) (fun w s₂ => wpAny (model X.prog X.w) X.A (inplaceOp op u w) (fun r s₃ => wpAny (model X.prog X.w) X.A (storeName X.env x r) (fun _ => SP X pins D .next) X.xe s₃) X.xe s₂) X.xe s:=by
  refine thn (he pins s σ H _ I h) fun w s1 ⟨y,H1,I1,r1,q1⟩ => ?_
  refine thn (ho pins s1 σ H1 v y u w _ I1 r r1 q1) fun z s2 ⟨zv,H2,I2,r2,q2⟩ => ?_
  exact zbs I2 hN hi hx r2 (fun s3 I3 => ⟨_,H2,I3,q2⟩) hf
 rcases l with ⟨hk,hm⟩ | ⟨hk,c,hc,hcell⟩
 ·exact wpAny_loadName_local I.ok.kind hk hn hm go
 ·rcases hk with hk | hk
  ·exact wpAny_loadName_cell I.ok.kind hk hc hcell go
  ·rcases hx with k | k
   ·have : X.env.scope.names.lookup x = some .free:=hk
    rw [k] at this; cases this
   ·have : X.env.scope.names.lookup x = some .free:=hk
    rw [k] at this; cases this
end
section
variable {X : Cx} {pos : Pos}
def zin (c : TT) (tb : TS) : TS:=fun D σ H => ∃ W : Nat → St → Hp → Prop,(∃ m,W m σ H) ∧ ∀ m σ H,W m σ H →
 c σ H fun b H1 => if b = true then ∃ N : St → Hp → Prop,(∀ σ' H',N σ' H' → ∃ m',m' < m ∧ W m' σ' H') ∧ tb { D with nx:=N,ct:=N,bk:=D.nx } σ H1 else D.nx σ H1
theorem zio {c : Expr} {body : List Stmt} {tc : TT} {tb : TS} (hp : PassesOwn (model X.prog X.w) X.A X.env X.xe) (hc : PT X c tc) (hb : PSs X body tb) : PS X (.While c body [] pos) (zin tc tb):=by
 intro pins s σ H D I h
 obtain ⟨W,⟨m0,w0⟩,turn⟩:=h
 refine wpAny_While (codeAny_whileLoop (fun n s' => ∃ σ' H',Inv X pins σ' H' s' ∧ W n σ' H') ?_ m0 ⟨σ,H,I,w0⟩)
 rintro n s1 ⟨σ1,H1,I1,w1⟩
 refine wpAny_passesOwn hp (thn (hc pins s1 σ1 H1 _ I1 (turn n σ1 H1 w1)) fun b s2 ⟨H2,I2,q2⟩ => ?_)
 cases b with
 | true =>
  obtain ⟨N,hN,q2⟩:=q2
  rw [if_pos rfl]
  refine wpAny_passesOwn hp (thn (hb pins s2 σ1 H2 _ I2 q2) fun f s3 q3 => ?_)
  cases f with
  | next =>
   obtain ⟨σ3,H3,I3,n3⟩:=q3
   obtain ⟨m',hm,w3⟩:=hN σ3 H3 n3
   exact ⟨m',hm,σ3,H3,I3,w3⟩
  | cont =>
   obtain ⟨σ3,H3,I3,n3⟩:=q3
   obtain ⟨m',hm,w3⟩:=hN σ3 H3 n3
   exact ⟨m',hm,σ3,H3,I3,w3⟩
  | brk => exact q3
  | ret v => exact q3
 | false =>
  rw [if_neg Bool.false_ne_true]
  exact wpAny_execs_nil ⟨σ1,H2,I2,q2⟩
end
structure It where
 go : Nat → Hp → Prop
 yld : Nat → Hp → V → Hp → Prop
 stop : Nat → Hp → Prop
def zbg (X : Cx) (pins : List (Addr × Obj)) (H : Hp) (b : Addr) : Prop :=
 H b = none ∧ b ≠ X.env.locals ∧ b ∉ X.fs ∧ (b ∈ X.ex ∨ X.s₀.heap.objs.size ≤ b) ∧ (∀ x c,X.env.cells.lookup x = some c → c ≠ b) ∧ ∀ p ∈ X.pn ++ pins,p.1 ≠ b
theorem Inv.fpOk {X : Cx} {pins : List (Addr × Obj)} {σ : St} {H H' : Hp} {s : Shared} {b : Addr} (I : Inv X pins σ H s) (hb : s.heap.objs.size ≤ b) (hn : H' b = none) : zbg X pins H' b:=by
 refine ⟨hn,Nat.ne_of_gt (Nat.lt_of_lt_of_le I.lt hb),I.nofs hb,.inr (Nat.le_trans I.sz hb),fun x c e z => ?_,fun p hp z => ?_⟩
 ·obtain ⟨v,q⟩:=I.cell x c e
  exact absurd (Nat.lt_of_lt_of_le q.lt (by rw [z]; exact hb)) (Nat.lt_irrefl _)
 ·exact absurd (Nat.lt_of_lt_of_le (Heap.lt_size (I.pin p hp).1) (by rw [z]; exact hb)) (Nat.lt_irrefl _)
structure Turn (P : Program) (w : World) (K : PySem.W.Frag) (tg : Expr) (J : It) (fp : List Addr) (it : Addr) (tn : Nat → Heap → Prop) : Prop where
 mem : it ∈ fp
 obj : ∀ i h,tn i h → ∀ b ∈ fp,∃ o,h.get? b = some o ∧ ∀ v,o.data ≠ .cell v
 keep : ∀ i h h',tn i h → (∀ b ∈ fp,∀ o,h.get? b = some o → h'.get? b = some o) → tn i h'
 item : ∀ (X : Cx),X.prog = P → X.w = w → X.K = K → X.calm = true → ∀ (i : Nat) (pins : List (Addr × Obj)) (s : Shared) (σ : St) (H : Hp) (E : Value → Shared → Prop),Inv X pins σ H s → (∀ b ∈ fp,zbg X pins H b) → tn i s.heap → J.go i H →
  wpAny (model P w) X.A (pyNext (.ref it)) (fun r s1 => ∃ u,r = some u ∧
   wpAny (model P w) X.A (letOwnedTupleGo tg (.ref it) u) (fun _ s2 => ∃ x H',Inv X pins σ H' s2 ∧ RelV x u ∧ J.yld i H x H' ∧ tn (i + 1) s2.heap ∧ ∀ b ∈ fp,H' b = none) E s1) E s
 done : ∀ (X : Cx),X.prog = P → X.w = w → X.K = K → X.calm = true → ∀ (i : Nat) (pins : List (Addr × Obj)) (s : Shared) (σ : St) (H : Hp) (E : Value → Shared → Prop),Inv X pins σ H s → (∀ b ∈ fp,zbg X pins H b) → tn i s.heap → J.stop i H →
  wpAny (model P w) X.A (pyNext (.ref it)) (fun r s1 => r = none ∧ Inv X pins σ H s1) E s
 self : ∀ (A : Around) (i : Nat) (s : Shared) (Q : Value → Shared → Prop) (E : Value → Shared → Prop),tn i s.heap → Q (.ref it) s → wpAny (model P w) A (pyIter (.ref it)) Q E s
abbrev TI:=St → Hp → (It → Hp → Prop) → Prop
def PIE (X : Cx) (pins : List (Addr × Obj)) (σ : St) (tg : Expr) (R : It → Hp → Prop) (itv : Value) (s2 : Shared) : Prop :=
 ∃ (it : Addr) (fp : List Addr) (tn : Nat → Heap → Prop) (J : It) (H' : Hp),itv = .ref it ∧ Inv X pins σ H' s2 ∧ Turn X.prog X.w X.K tg J fp it tn ∧ tn 0 s2.heap ∧ (∀ b ∈ fp,zbg X pins H' b) ∧ R J H'
def PI (X : Cx) (tg iter : Expr) (wi : TI) : Prop :=
 ∀ (pins : List (Addr × Obj)) (s : Shared) (σ : St) (H : Hp) (R : It → Hp → Prop),Inv X pins σ H s → wi σ H R →
  wpAny (model X.prog X.w) X.A (eval iter X.env) (fun v s1 => wpAny (model X.prog X.w) X.A (pyIter v) (PIE X pins σ tg R) X.xe s1) X.xe s
theorem zd4 {M : Model} {A : Around} {E : Value → Shared → Prop} {s : Shared} {tg : Expr} {it : Addr} {u : Value} {o : Obj} {n : String} {vs : Array Value} {Q : Unit → Shared → Prop} (ho : s.heap.get? it = some o) (hc : o.cls = .type n) (hd : o.data = .fields vs)
  (hn : ["enumerate","zip","dict_itemiterator","dict_reverseitemiterator","odict_iterator","itertools.zip_longest","itertools.pairwise"].contains n = false) (hQ : Q () s) : wpAny M A (letOwnedTupleGo tg (.ref it) u) Q E s:=by
 unfold letOwnedTupleGo
 cases tg <;> first
  | exact wpAny_pure hQ
  | (cases u <;> first
    | exact wpAny_pure hQ
    | (refine wpAny_bind (wpAny_load ho ?_)
       rw [hc,hd]
       show wpAny M A (if (["enumerate","zip","dict_itemiterator","dict_reverseitemiterator","odict_iterator","itertools.zip_longest","itertools.pairwise"].contains n && vs[0]? == some (rawInt _)) = true then _ else _) Q E s
       rw [if_neg (by intro h; rw [hn,Bool.false_and] at h; cases h)]
       exact wpAny_pure hQ))
def Itl (K : PySem.W.Frag) (a : Addr) : It :=
 ⟨fun i H => ∃ xs x,SqL K H a xs ∧ xs[i]? = some x,fun i H x H' => H' = H ∧ ∀ xs,SqL K H a xs → xs[i]? = some x,fun i H => ∃ xs,SqL K H a xs ∧ xs.length ≤ i⟩
def Itt (K : PySem.W.Frag) (a : Addr) : It :=
 ⟨fun i H => ∃ xs x,SqT K H a xs ∧ xs[i]? = some x,fun i H x H' => H' = H ∧ ∀ xs,SqT K H a xs → xs[i]? = some x,fun i H => ∃ xs,SqT K H a xs ∧ xs.length ≤ i⟩
def Itr (lo : Int) (n : Nat) : It:=⟨fun i _ => i < n,fun i H x H' => H' = H ∧ x = .int (lo + i),fun i _ => n ≤ i⟩
theorem zd5 {P : Program} {w : World} {K : PySem.W.Frag} {tg : Expr} (a it : Addr) : Turn P w K tg (Itl K a) [it] it (fun i h => h.IsListIter it a i) where
 mem:=by simp
 obj:=fun i h st b hb => by
  have e : b = it:=by simpa using hb
  subst e
  obtain ⟨o,e,c,d⟩:=st
  exact ⟨o,e,fun v z => by rw [d] at z; cases z⟩
 keep:=fun i h h' st k => st.at fun o e => k it (by simp) o e
 item:=by
  intro X hP hw hK hc i pins s σ H E I hf st hg
  subst hP hw hK
  obtain ⟨xs,x,hq,hx⟩:=hg
  obtain ⟨its,rv,p,hz⟩:=I.list hq
  obtain ⟨u,hu,ru⟩:=rv.get hx
  obtain ⟨f0,f1,f2,f3,f4,f5⟩:=hf it (by simp)
  refine wpAny_pyNext_list_item st p.isList (x:=u) (by simpa using hu) fun h' st' sb => ?_
  have I1 : Inv X pins σ H { s with heap:=h' }:=I.turned (t':=s.toks) (fun b o hb e => (sb.2 b hb).trans e) f0 f1 f3 f4 f5
  obtain ⟨o,e,c,d⟩:=id st'
  exact ⟨u,rfl,zd4 (s:={ s with heap:=h' }) e c d (by decide) ⟨x,H,I1,ru,⟨rfl,fun ys hy => by rw [I.list_inj hy hq]; exact hx⟩,st',fun b hb => (hf b hb).1⟩⟩
 done:=by
  intro X hP hw hK hc i pins s σ H E I hf st hg
  subst hP hw hK
  obtain ⟨xs,hq,hx⟩:=hg
  obtain ⟨its,rv,p,hz⟩:=I.list hq
  obtain ⟨f0,f1,f2,f3,f4,f5⟩:=hf it (by simp)
  have hl:=rv.length
  exact wpAny_pyNext_list_end (I.ok.hd hc) st p.isList (by simp; omega) fun h' eb => ⟨rfl,I.turned (t':=s.toks) (fun b o hb e => eb b o hb e) f0 f1 f3 f4 f5⟩
 self:=fun _ _ _ _ _ st h => wpAny_pyIter_listiter st h
theorem zgc {P : Program} {w : World} {K : PySem.W.Frag} {tg : Expr} (a it : Addr) : Turn P w K tg (Itt K a) [it] it (fun i h => h.IsTupleIter it a i) where
 mem:=by simp
 obj:=fun i h st b hb => by
  have e : b = it:=by simpa using hb
  subst e
  obtain ⟨o,e,c,d⟩:=st
  exact ⟨o,e,fun v z => by rw [d] at z; cases z⟩
 keep:=fun i h h' st k => st.at fun o e => k it (by simp) o e
 item:=by
  intro X hP hw hK hc i pins s σ H E I hf st hg
  subst hP hw hK
  obtain ⟨xs,x,hq,hx⟩:=hg
  obtain ⟨its,rv,p,hz⟩:=I.tuple hq
  obtain ⟨u,hu,ru⟩:=rv.get hx
  obtain ⟨f0,f1,f2,f3,f4,f5⟩:=hf it (by simp)
  refine wpAny_pyNext_tuple_item st (show s.heap.IsTuple a its.toArray from p) (x:=u) (by simpa using hu) fun h' st' sb => ?_
  have I1 : Inv X pins σ H { s with heap:=h' }:=I.turned (t':=s.toks) (fun b o hb e => (sb.2 b hb).trans e) f0 f1 f3 f4 f5
  obtain ⟨o,e,c,d⟩:=id st'
  exact ⟨u,rfl,zd4 (s:={ s with heap:=h' }) e c d (by decide) ⟨x,H,I1,ru,⟨rfl,fun ys hy => by rw [I.tuple_inj hy hq]; exact hx⟩,st',fun b hb => (hf b hb).1⟩⟩
 done:=by
  intro X hP hw hK hc i pins s σ H E I hf st hg
  subst hP hw hK
  obtain ⟨xs,hq,hx⟩:=hg
  obtain ⟨its,rv,p,hz⟩:=I.tuple hq
  obtain ⟨f0,f1,f2,f3,f4,f5⟩:=hf it (by simp)
  have hl:=rv.length
  exact wpAny_pyNext_tuple_end (I.ok.hd hc) st (show s.heap.IsTuple a its.toArray from p) (by simp; omega) fun h' eb => ⟨rfl,I.turned (t':=s.toks) (fun b o hb e => eb b o hb e) f0 f1 f3 f4 f5⟩
 self:=fun _ _ _ _ _ st h => wpAny_pyIter_tupleiter st h
theorem zgd {P : Program} {w : World} {K : PySem.W.Frag} {tg : Expr} (it : Addr) (lo : Int) (n : Nat) : Turn P w K tg (Itr lo n) [it] it (fun i h => IsRangeIter h it (lo + (i : Nat) * 1) ((n : Int) - (i : Nat)) 1) where
 mem:=by simp
 obj:=fun i h st b hb => by
  have e : b = it:=by simpa using hb
  subst e
  exact ⟨_,st,fun v z => by
   have z' : Data.fields _ = Data.cell v:=z
   cases z'⟩
 keep:=fun i h h' st k => k it (by simp) _ st
 item:=by
  intro X hP hw hK hc i pins s σ H E I hf st hg
  subst hP hw hK
  obtain ⟨f0,f1,f2,f3,f4,f5⟩:=hf it (by simp)
  have W:=Walks.range (prog:=X.prog) (w:=X.w) (I.ok.hd hc) it lo 1 n
  refine W.item i s _ _ hg st fun v h' tk hv st' kk => ?_
  obtain ⟨t,rfl⟩:=hv
  have I1 : Inv X pins σ H { s with heap:=h',toks:=tk }:=I.turned (fun b o hb e => kk b o (by simpa using hb) e) f0 f1 f3 f4 f5
  refine ⟨_,rfl,zd4 (s:={ s with heap:=h',toks:=tk }) (n:="range_iterator") st' rfl rfl (by decide) ⟨.int (lo + i),H,I1,⟨t,?_⟩,⟨rfl,rfl⟩,st',fun b hb => (hf b hb).1⟩⟩
  rw [Int.mul_one]
 done:=by
  intro X hP hw hK hc i pins s σ H E I hf st hg
  subst hP hw hK
  obtain ⟨f0,f1,f2,f3,f4,f5⟩:=hf it (by simp)
  exact wpAny_pyNext_range_end (I.ok.hd hc) st (by have : n ≤ i:=hg; omega) fun h' eb => ⟨rfl,I.turned (t':=s.toks) (fun b o hb e => eb b o hb e) f0 f1 f3 f4 f5⟩
 self:=fun _ _ _ _ _ st h => wpAny_pyIter_rangeiter st h
end L2
namespace L2
open PySem PySem.Spec PyProof.Rows
section
variable {X : Cx} {tg : Expr}
def zlD (K : PySem.W.Frag) (tl : TE) : TI:=fun σ H R => tl σ H fun x H1 => ∃ a,x = .ref a ∧ (∃ xs,SqL K H1 a xs) ∧ R (Itl K a) H1
theorem zac {l : Expr} {tl : TE} (hl : PE X l tl) : PI X tg l (zlD X.K tl):=by
 intro pins s σ H R I h
 refine thn (hl pins s σ H _ I h) fun v s1 ⟨x,H1,I1,r1,q1⟩ => ?_
 obtain ⟨a,e,⟨xs,hq⟩,q⟩:=q1
 subst e
 cases r1
 obtain ⟨its,rv,p,hz⟩:=I1.list hq
 refine wpAny_pyIter_list p.isList ?_
 refine ⟨s1.heap.objs.size,[s1.heap.objs.size],_,_,H1,rfl,I1.kept (t':=s1.toks) fun b o e => Heap.get?_push_of_some _ e,zd5 a _,⟨_,Heap.get?_push_size _ rfl,rfl,rfl⟩,fun b hb => ?_,q⟩
 have e : b = s1.heap.objs.size:=by simpa using hb
 subst e
 exact I1.fpOk (Nat.le_refl _) (I1.hok.fresh (Nat.le_refl _))
theorem zfe {pins : List (Addr × Obj)} {σ : St} {H : Hp} {s : Shared} {R : It → Hp → Prop} {E : Value → Shared → Prop} {lo hi : Int} {t u v : Tok} {tk : Nat} (I : Inv X pins σ H s) (h1 : -(2 ^ 62) ≤ lo) (h2 : lo < 2 ^ 62) (h3 : -(2 ^ 62) ≤ hi) (h4 : hi < 2 ^ 62)
  (q : R (Itr lo (hi - lo).toNat) H) : wpAny (model X.prog X.w) X.A (pyIter (.ref s.heap.objs.size)) (PIE X pins σ tg R) E { s with heap:=s.heap.push { cls:=.type "range",data:=.fields #[.int lo t,.int hi u,.int 1 v] },toks:=tk }:=by
 refine wpAny_pyIter_range (IsRange.new ..) (small_one h1 h2 h3 h4) ?_
 have I1 : Inv X pins σ H { s with heap:=s.heap.push { cls:=.type "range",data:=.fields #[.int lo t,.int hi u,.int 1 v] },toks:=tk }:=I.kept fun b o e => Heap.get?_push_of_some _ e
 refine ⟨(s.heap.push { cls:=.type "range",data:=.fields #[.int lo t,.int hi u,.int 1 v] }).objs.size,[(s.heap.push { cls:=.type "range",data:=.fields #[.int lo t,.int hi u,.int 1 v] }).objs.size],_,_,H,rfl,
  I1.kept (t':=tk) fun b o e => Heap.get?_push_of_some _ e,zgd _ lo (hi - lo).toNat,?_,fun b hb => ?_,q⟩
 ·have e1 : lo + ((0 : Nat) : Int) * 1 = lo:=by simp
  have e2 : (((hi - lo).toNat : Nat) : Int) - ((0 : Nat) : Int) = Builtin.Range.rangeSize lo hi 1:=by rw [rangeSize_one]; split <;> omega
  show IsRangeIter _ _ (lo + ((0 : Nat) : Int) * 1) ((((hi - lo).toNat : Nat) : Int) - ((0 : Nat) : Int)) 1
  rw [e1,e2]
  exact Heap.get?_push_size _ rfl
 ·have e : b = (s.heap.push { cls:=.type "range",data:=.fields #[.int lo t,.int hi u,.int 1 v] }).objs.size:=by simpa using hb
  subst e
  exact I1.fpOk (Nat.le_refl _) (I1.hok.fresh (Nat.le_refl _))
def zlE (ta : TA) : TI:=fun σ H R => ta σ H fun vs H1 => ∃ j : Int,vs = [.int j] ∧ -(2 ^ 62) ≤ j ∧ j < 2 ^ 62 ∧ R (Itr 0 j.toNat) H1
def zlF (ta : TA) : TI:=fun σ H R => ta σ H fun vs H1 => ∃ i j : Int,vs = [.int i,.int j] ∧ (-(2 ^ 62) ≤ i ∧ i < 2 ^ 62 ∧ -(2 ^ 62) ≤ j ∧ j < 2 ^ 62) ∧ R (Itr i (j - i).toNat) H1
theorem zaa {a : Expr} {ta : TA} {p pos : Pos} (hg : Gl X "range") (hm : X.mg "range" = none) (ha : PA X [a] ta) (hs : starEach [a] X.env = [(false,eval a X.env)]:=by rfl) : PI X tg (.Call (.Name "range" p) [a] [] pos) (zlE ta):=by
 intro pins s σ H R I h
 refine Call_ (zbm I hg hm boot_range (PyProof.Rows.callWith_type1 (thn (ha pos pins s σ H _ I h) fun us s1 ⟨vs,H1,I1,r1,q1⟩ => ?_) hs rfl))
 obtain ⟨j,e,q1,q2,q⟩:=q1
 subst e
 cases r1 with
 | cons r rr =>
  cases rr
  obtain ⟨t,rfl⟩:=r
  exact call_range_1 (zfe I1 (by omega) (by omega) q1 q2 (by simpa using q))
theorem zhp {a b : Expr} {ta : TA} {p pos : Pos} (hg : Gl X "range") (hm : X.mg "range" = none) (ha : PA X [a,b] ta) (hs : starEach [a,b] X.env = [(false,eval a X.env),(false,eval b X.env)]:=by rfl) (hs2 : starEach [b] X.env = [(false,eval b X.env)]:=by rfl) :
  PI X tg (.Call (.Name "range" p) [a,b] [] pos) (zlF ta):=by
 intro pins s σ H R I h
 refine Call_ (zbm I hg hm boot_range (PyProof.Rows.callWith_type1 (thn (ha pos pins s σ H _ I h) fun us s1 ⟨vs,H1,I1,r1,q1⟩ => ?_) (by rw [hs,hs2]) (by rw [hs2]; rfl)))
 obtain ⟨i,j,e,⟨q1,q2,q3,q4⟩,q⟩:=q1
 subst e
 cases r1 with
 | cons r rr =>
  cases rr with
  | cons r' rr =>
   cases rr
   obtain ⟨t,rfl⟩:=r
   obtain ⟨t',rfl⟩:=r'
   exact call_range_2 (zfe I1 q1 q2 q3 q4 q)
def zmd (wi : TI) (g : TG) (tb : TS) : TS:=fun D σ H => wi σ H fun J H1 => ∃ W : Nat → Nat → St → Hp → Prop,(∃ m,W 0 m σ H1) ∧ ∀ i m σ H,W i m σ H →
 (J.stop i H ∧ D.nx σ H) ∨ (J.go i H ∧ ∃ N : St → Hp → Prop,(∀ σ' H',N σ' H' → ∃ m',m' < m ∧ W (i + 1) m' σ' H') ∧ ∀ x H',J.yld i H x H' → g x σ H' fun σ2 H2 => tb { D with nx:=N,ct:=N,bk:=D.nx } σ2 H2)
def zbB (fp : List Addr) (h : Heap) : List (Addr × Obj):=fp.filterMap fun b => (h.get? b).map fun o => (b,o)
theorem zaR {fp : List Addr} {h : Heap} {b : Addr} {o : Obj} (hb : b ∈ fp) (e : h.get? b = some o) : (b,o) ∈ zbB fp h:=List.mem_filterMap.mpr ⟨b,hb,by rw [e]; rfl⟩
theorem zd6 {fp : List Addr} {h : Heap} {p : Addr × Obj} (hp : p ∈ zbB fp h) : p.1 ∈ fp ∧ h.get? p.1 = some p.2:=by
 obtain ⟨b,hb,e⟩:=List.mem_filterMap.mp hp
 cases q : h.get? b with
 | none => rw [q] at e; cases e
 | some o =>
  rw [q] at e
  have e' : (b,o) = p:=Option.some.inj e
  subst e'
  exact ⟨hb,q⟩
theorem Inv.pinned {pins : List (Addr × Obj)} {σ : St} {H : Hp} {s : Shared} {fp : List Addr} (I : Inv X pins σ H s) (hf : ∀ b ∈ fp,zbg X pins H b) (ho : ∀ b ∈ fp,∃ o,s.heap.get? b = some o ∧ ∀ v,o.data ≠ .cell v) : Inv X (pins ++ zbB fp s.heap) σ H s :=
 I.pins_of fun p hp => (List.mem_append.mp hp).elim (fun z => I.pin p (List.mem_append_right _ z)) fun z => by
  obtain ⟨hb,e⟩:=zd6 z
  obtain ⟨f0,f1,f2,_⟩:=hf p.1 hb
  obtain ⟨o,e',d⟩:=ho p.1 hb
  rw [e] at e'; cases e'
  exact ⟨e,f0,f1,f2,d⟩
theorem Inv.unpinned {pins pl : List (Addr × Obj)} {σ : St} {H : Hp} {s : Shared} (I : Inv X (pins ++ pl) σ H s) : Inv X pins σ H s:=I.pins_of fun p hp => I.pin p (List.mem_append_right _ (List.mem_append_left _ hp))
theorem zaG {iter : Expr} {body : List Stmt} {wi : TI} {g : TG} {tb : TS} {pos : Pos} (hp : PassesOwn (model X.prog X.w) X.A X.env X.xe) (hc : X.calm = true) (hi : PI X tg iter wi) (hg : PG X tg g) (hb : PSs X body tb)
  (hs : ∀ x,foldedSetIterable iter X.env x = pure x:=by intro _; rfl) : PS X (.For tg iter body [] pos) (zmd wi g tb):=by
 intro pins s σ H D I h
 refine wpAny_For (thn (hi pins s σ H _ I h) fun v s1 h1 => thn h1 fun itv s2 h2 => ?_) hs
 obtain ⟨it,fp,tn,J,H2,e,I2,T,st2,f2,W,⟨m0,w0⟩,turn⟩:=h2
 subst e
 have stat : ∀ {H' : Hp},(∀ b ∈ fp,H' b = none) → ∀ b ∈ fp,zbg X pins H' b:=fun hn b hb => ⟨hn b hb,(f2 b hb).2⟩
 refine codeAny_forLoop_any (fun n s' => ∃ i σ' H',Inv X pins σ' H' s' ∧ tn i s'.heap ∧ (∀ b ∈ fp,H' b = none) ∧ W i n σ' H') ?_ m0 ⟨0,σ,H2,I2,st2,fun b hb => (f2 b hb).1,w0⟩
 rintro n s3 ⟨i,σ3,H3,I3,st3,fr3,w3⟩
 rcases turn i n σ3 H3 w3 with ⟨stop,qn⟩ | ⟨go,N,hN,step⟩
 ·refine wpAny_passesOwn hp (thn (T.done X rfl rfl rfl hc i pins s3 σ3 H3 X.xe I3 (stat fr3) st3 stop) fun r s4 ⟨hr,I4⟩ => ?_)
  subst hr
  exact wpAny_execs_nil ⟨σ3,H3,I4,qn⟩
 ·refine wpAny_passesOwn hp (thn (T.item X rfl rfl rfl hc i pins s3 σ3 H3 X.xe I3 (stat fr3) st3 go) fun r s4 ⟨u,hr,h4⟩ => ?_)
  subst hr
  refine wpAny_passesOwn hp (thn h4 fun _ s5 ⟨x,H5,I5,r5,y5,st5,fr5⟩ => ?_)
  have I5':=I5.pinned (stat fr5) (T.obj _ _ st5)
  refine wpAny_passesOwn hp (thn (hg _ s5 σ3 H5 x u _ I5' r5 (step x H5 y5)) fun _ s6 ⟨σ6,H6,I6,q6⟩ => ?_)
  refine wpAny_passesOwn hp (thn (hb _ s6 σ6 H6 _ I6 q6) fun f s7 q7 => ?_)
  have again : ∀ {σ7 : St} {H7 : Hp},Inv X (pins ++ zbB fp s5.heap) σ7 H7 s7 → N σ7 H7 → ∃ m,m < n ∧ ∃ i σ' H',Inv X pins σ' H' s7 ∧ tn i s7.heap ∧ (∀ b ∈ fp,H' b = none) ∧ W i m σ' H':=fun {σ7 H7} I7 n7 => by
   obtain ⟨m',hm,w7⟩:=hN σ7 H7 n7
   refine ⟨m',hm,i + 1,σ7,H7,I7.unpinned,T.keep _ _ _ st5 fun b hb o e => (I7.pin (b,o) (List.mem_append_right _ (List.mem_append_right _ (zaR hb e)))).1,fun b hb => ?_,w7⟩
   obtain ⟨o,e,d⟩:=T.obj _ _ st5 b hb
   exact (I7.pin (b,o) (List.mem_append_right _ (List.mem_append_right _ (zaR hb e)))).2.1
  cases f with
  | next => obtain ⟨σ7,H7,I7,n7⟩:=q7; exact again I7 n7
  | cont => obtain ⟨σ7,H7,I7,n7⟩:=q7; exact again I7 n7
  | brk => obtain ⟨σ7,H7,I7,q7⟩:=q7; exact ⟨σ7,H7,I7.unpinned,q7⟩
  | ret v => obtain ⟨x7,σ7,H7,I7,r7,q7⟩:=q7; exact ⟨x7,σ7,H7,I7.unpinned,r7,q7⟩
end
theorem zbb {K : PySem.W.Frag} {a : Addr} {xs : List V} {g : TG} {tb : TS} {D : Ends} {σ : St} {H : Hp} (Pv : Nat → St → Hp → Prop) (h0 : Pv 0 σ H) (hl : ∀ i σ H,i ≤ xs.length → Pv i σ H → SqL K H a xs)
  (hs : ∀ i x σ H,xs[i]? = some x → Pv i σ H → g x σ H fun σ2 H2 => tb { D with nx:=Pv (i + 1),ct:=Pv (i + 1),bk:=D.nx } σ2 H2) (hd : ∀ σ H,Pv xs.length σ H → D.nx σ H) :
  ∃ W : Nat → Nat → St → Hp → Prop,(∃ m,W 0 m σ H) ∧ ∀ i m σ H,W i m σ H →
   ((Itl K a).stop i H ∧ D.nx σ H) ∨ ((Itl K a).go i H ∧ ∃ N : St → Hp → Prop,(∀ σ' H',N σ' H' → ∃ m',m' < m ∧ W (i + 1) m' σ' H') ∧ ∀ x H',(Itl K a).yld i H x H' → g x σ H' fun σ2 H2 => tb { D with nx:=N,ct:=N,bk:=D.nx } σ2 H2):=by
 refine ⟨fun i m σ H => m = xs.length - i ∧ i ≤ xs.length ∧ Pv i σ H,⟨xs.length,by simp,Nat.zero_le _,h0⟩,?_⟩
 rintro i m σ H ⟨rfl,hi,p⟩
 have q:=hl i σ H hi p
 by_cases hlt : i < xs.length
 ·refine .inr ⟨⟨xs,xs[i],q,by simp [hlt]⟩,Pv (i + 1),fun σ' H' p' => ⟨xs.length - (i + 1),by omega,rfl,hlt,p'⟩,fun x H' y => ?_⟩
  obtain ⟨e,y⟩:=y
  subst e
  exact hs i x σ _ (y xs q) p
 ·have e : i = xs.length:=by omega
  subst e
  exact .inl ⟨⟨xs,q,Nat.le_refl _⟩,hd σ H p⟩
theorem zjD {K : PySem.W.Frag} {a : Addr} {xs : List V} {g : TG} {tb : TS} {D : Ends} {σ : St} {H : Hp} (Pv : Nat → St → Hp → Prop) (h0 : Pv 0 σ H) (hl : ∀ i σ H,i ≤ xs.length → Pv i σ H → SqT K H a xs)
  (hs : ∀ i x σ H,xs[i]? = some x → Pv i σ H → g x σ H fun σ2 H2 => tb { D with nx:=Pv (i + 1),ct:=Pv (i + 1),bk:=D.nx } σ2 H2) (hd : ∀ σ H,Pv xs.length σ H → D.nx σ H) :
  ∃ W : Nat → Nat → St → Hp → Prop,(∃ m,W 0 m σ H) ∧ ∀ i m σ H,W i m σ H →
   ((Itt K a).stop i H ∧ D.nx σ H) ∨ ((Itt K a).go i H ∧ ∃ N : St → Hp → Prop,(∀ σ' H',N σ' H' → ∃ m',m' < m ∧ W (i + 1) m' σ' H') ∧ ∀ x H',(Itt K a).yld i H x H' → g x σ H' fun σ2 H2 => tb { D with nx:=N,ct:=N,bk:=D.nx } σ2 H2):=by
 refine ⟨fun i m σ H => m = xs.length - i ∧ i ≤ xs.length ∧ Pv i σ H,⟨xs.length,by simp,Nat.zero_le _,h0⟩,?_⟩
 rintro i m σ H ⟨rfl,hi,p⟩
 have q:=hl i σ H hi p
 by_cases hlt : i < xs.length
 ·refine .inr ⟨⟨xs,xs[i],q,by simp [hlt]⟩,Pv (i + 1),fun σ' H' p' => ⟨xs.length - (i + 1),by omega,rfl,hlt,p'⟩,fun x H' y => ?_⟩
  obtain ⟨e,y⟩:=y
  subst e
  exact hs i x σ _ (y xs q) p
 ·have e : i = xs.length:=by omega
  subst e
  exact .inl ⟨⟨xs,q,Nat.le_refl _⟩,hd σ H p⟩
theorem zaS {lo : Int} {n : Nat} {g : TG} {tb : TS} {D : Ends} {σ : St} {H : Hp} (Pv : Nat → St → Hp → Prop) (h0 : Pv 0 σ H)
  (hs : ∀ i σ H,i < n → Pv i σ H → g (.int (lo + i)) σ H fun σ2 H2 => tb { D with nx:=Pv (i + 1),ct:=Pv (i + 1),bk:=D.nx } σ2 H2) (hd : ∀ σ H,Pv n σ H → D.nx σ H) :
  ∃ W : Nat → Nat → St → Hp → Prop,(∃ m,W 0 m σ H) ∧ ∀ i m σ H,W i m σ H →
   ((Itr lo n).stop i H ∧ D.nx σ H) ∨ ((Itr lo n).go i H ∧ ∃ N : St → Hp → Prop,(∀ σ' H',N σ' H' → ∃ m',m' < m ∧ W (i + 1) m' σ' H') ∧ ∀ x H',(Itr lo n).yld i H x H' → g x σ H' fun σ2 H2 => tb { D with nx:=N,ct:=N,bk:=D.nx } σ2 H2):=by
 refine ⟨fun i m σ H => m = n - i ∧ i ≤ n ∧ Pv i σ H,⟨n,by simp,Nat.zero_le _,h0⟩,?_⟩
 rintro i m σ H ⟨rfl,hi,p⟩
 by_cases hlt : i < n
 ·refine .inr ⟨hlt,Pv (i + 1),fun σ' H' p' => ⟨n - (i + 1),by omega,rfl,hlt,p'⟩,fun x H' y => ?_⟩
  obtain ⟨e,y⟩:=y
  subst e y
  exact hs i σ _ hlt p
 ·have e : i = n:=by omega
  subst e
  exact .inl ⟨Nat.le_refl _,hd σ H p⟩
theorem ziq {c : TT} {tb : TS} {D : Ends} {σ : St} {H : Hp} (Pv : St → Hp → Prop) (μ : St → Hp → Nat) (h0 : Pv σ H)
  (hs : ∀ σ H,Pv σ H → c σ H fun b H1 => if b = true then tb { D with nx:=fun σ' H' => Pv σ' H' ∧ μ σ' H' < μ σ H,ct:=fun σ' H' => Pv σ' H' ∧ μ σ' H' < μ σ H,bk:=D.nx } σ H1 else D.nx σ H1)
  (mono : ∀ σ H Q Q',(∀ b H1,Q b H1 → Q' b H1) → c σ H Q → c σ H Q') : zin c tb D σ H:=by
 refine ⟨fun m σ H => m = μ σ H ∧ Pv σ H,⟨_,rfl,h0⟩,?_⟩
 rintro m σ H ⟨rfl,p⟩
 refine mono σ H _ _ (fun b H1 q => ?_) (hs σ H p)
 cases b with
 | true => exact ⟨_,fun σ' H' ⟨p',l⟩ => ⟨_,l,rfl,p'⟩,q⟩
 | false => exact q
end L2
namespace L2
open PySem PySem.Spec PyProof.Rows
abbrev R2:=V → V → Hp → VK → Prop
def OpR (X : Cx) (f : Value → Value → Sem Value) (r : R2) : Prop :=
 ∀ (pins : List (Addr × Obj)) (s : Shared) (σ : St) (H : Hp) (x y : V) (v u : Value) (Q : VK),Inv X pins σ H s → RelV x v → RelV y u → r x y H Q →
  wpAny (model X.prog X.w) X.A (f v u) (EP X pins σ Q) X.xe s
def zbh (X : Cx) (f : Value) (r : List V → Hp → VK → Prop) : Prop :=
 ∀ (pins : List (Addr × Obj)) (s : Shared) (σ : St) (H : Hp) (xs : List V) (us : List Value) (Q : VK),Inv X pins σ H s → zA xs us → r xs H Q →
  wpAny (model X.prog X.w) X.A (call f us) (EP X pins σ Q) X.xe s
def tOp (r : R2) (ta tb : TE) : TE:=fun σ H Q => ta σ H fun x H1 => tb σ H1 fun y H2 => r x y H2 Q
def rI (C : Int → Int → Prop) (g : Int → Int → V) : R2:=fun x y H Q => ∃ i j,x = .int i ∧ y = .int j ∧ C i j ∧ Q (g i j) H
def rI0 (g : Int → Int → V) : R2:=fun x y H Q => ∃ i j,x = .int i ∧ y = .int j ∧ Q (g i j) H
section
variable {X : Cx} {a b c : Expr} {ta tb tc : TE} {pos : Pos}
theorem zlG (ha : PE X a ta) (hb : PE X b tb) {pins : List (Addr × Obj)} {s : Shared} {σ : St} {H : Hp} {R : V → V → Hp → Prop} (I : Inv X pins σ H s)
  (h : ta σ H fun x H1 => tb σ H1 fun y H2 => R x y H2) {Q : Value → Shared → Prop} {f : Value → Value → Sem Value}
  (hf : ∀ v u s2 x y H2,Inv X pins σ H2 s2 → RelV x v → RelV y u → R x y H2 → wpAny (model X.prog X.w) X.A (f v u) Q X.xe s2) :
  wpAny (model X.prog X.w) X.A (eval a X.env) (fun v s₁ => wpAny (model X.prog X.w) X.A (eval b X.env) (fun u s₂ => wpAny (model X.prog X.w) X.A (f v u) Q X.xe s₂) X.xe s₁) X.xe s:=by
 refine thn (ha pins s σ H _ I h) fun v s1 ⟨x,H1,I1,r1,q1⟩ => ?_
 refine thn (hb pins s1 σ H1 _ I1 q1) fun u s2 ⟨y,H2,I2,r2,q2⟩ => ?_
 exact hf v u s2 x y H2 I2 r1 r2 q2
theorem zl {op : Operator} {r : R2} (ho : OpR X (binaryOp op) r) (ha : PE X a ta) (hb : PE X b tb) : PE X (.BinOp a op b pos) (tOp r ta tb):=by
 intro pins s σ H Q I h
 exact wpAny_BinOp (zlG ha hb I h fun v u s2 x y H2 I2 rx ry q => ho pins s2 σ H2 x y v u Q I2 rx ry q)
theorem opI {f : Value → Value → Sem Value} {C : Int → Int → Prop} {g : Int → Int → Int}
  (rule : ∀ (i j : Int) (t u : Tok) (s : Shared) (Q : Value → Shared → Prop) (E : Value → Shared → Prop),C i j → Q (.int (g i j) s.toks) { s with toks:=s.toks + 1 } → wpAny (model X.prog X.w) X.A (f (.int i t) (.int j u)) Q E s) :
  OpR X f (rI C fun i j => .int (g i j)):=by
 intro pins s σ H x y v u Q I rx ry h
 obtain ⟨i,j,rfl,rfl,hc,q⟩:=h
 obtain ⟨t,rfl⟩:=rx
 obtain ⟨t',rfl⟩:=ry
 exact rule i j t t' s _ _ hc ⟨.int (g i j),H,I.tok _,⟨_,rfl⟩,q⟩
theorem zlH {f : Value → Value → Sem Value} {g : Int → Int → Int}
  (rule : ∀ (i j : Int) (t u : Tok) (s : Shared) (Q : Value → Shared → Prop) (E : Value → Shared → Prop),Q (.int (g i j) s.toks) { s with toks:=s.toks + 1 } → wpAny (model X.prog X.w) X.A (f (.int i t) (.int j u)) Q E s) :
  OpR X f (rI0 fun i j => .int (g i j)):=by
 intro pins s σ H x y v u Q I rx ry h
 obtain ⟨i,j,rfl,rfl,q⟩:=h
 obtain ⟨t,rfl⟩:=rx
 obtain ⟨t',rfl⟩:=ry
 exact rule i j t t' s _ _ ⟨.int (g i j),H,I.tok _,⟨_,rfl⟩,q⟩
theorem zkO {f : Value → Value → Sem Value} {g : Int → Int → Bool}
  (rule : ∀ (i j : Int) (t u : Tok) (s : Shared) (Q : Value → Shared → Prop) (E : Value → Shared → Prop),Q (.bool (g i j)) s → wpAny (model X.prog X.w) X.A (f (.int i t) (.int j u)) Q E s) :
  OpR X f (rI0 fun i j => .bl (g i j)):=by
 intro pins s σ H x y v u Q I rx ry h
 obtain ⟨i,j,rfl,rfl,q⟩:=h
 obtain ⟨t,rfl⟩:=rx
 obtain ⟨t',rfl⟩:=ry
 exact rule i j t t' s _ _ ⟨.bl (g i j),H,I,rfl,q⟩
def zlI (i j : Int) : Prop:=0 < j ∧ j < 1073741824
def zme (i j : Int) : Prop:=0 ≤ j ∧ j ≤ 1000000 ∧ i.natAbs < 2 ^ 64
def zkP (i j : Int) : Prop:=(-(2 ^ 64) < i ∧ i < 2 ^ 64) ∨ (-(2 ^ 64) < j ∧ j < 2 ^ 64)
theorem zkP.ok {i j : Int} (h : zkP i j) : IntMulOk i j:=by
 rcases h with ⟨h1,h2⟩ | ⟨h1,h2⟩
 ·exact .of_left (intBits_le_64 h1 h2)
 ·exact .of_right (intBits_le_64 h1 h2)
theorem zag : OpR X (binaryOp .Add) (rI0 fun i j => .int (i + j)):=zlH fun _ _ _ _ _ _ _ q => add_int q
theorem zbP : OpR X (binaryOp .Sub) (rI0 fun i j => .int (i - j)):=zlH fun _ _ _ _ _ _ _ q => sub_int q
theorem zZ : OpR X (binaryOp .Mult) (rI zkP fun i j => .int (i * j)):=opI fun _ _ _ _ _ _ _ hc q => mul_int q hc.ok
theorem zc7 : OpR X (binaryOp .FloorDiv) (rI zlI fun i j => .int (i / j)):=opI fun i j _ _ _ _ _ hc q => by
 have h1 : (0 : Int) < j:=hc.1
 have h2 : j < 1073741824:=hc.2
 exact floordiv_int (by omega) (by rw [Int.fdiv_eq_ediv_of_nonneg i (by omega)]; exact q) (.inl (PyProof.noPylong_small (by omega)))
theorem zC : OpR X (binaryOp .Mod) (rI (fun _ j => 0 < j) fun i j => .int (i % j)):=opI fun i j _ _ _ _ _ hc q => by
 have h1 : (0 : Int) < j:=hc
 exact mod_int' (by omega) (by rw [Int.fmod_eq_emod_of_nonneg i (by omega)]; exact q)
theorem zkQ : OpR X (binaryOp .Pow) (rI zme fun i j => .int (i ^ j.toNat)):=opI fun _ _ _ _ _ _ _ hc q => pow_int_small hc.1 hc.2.1 hc.2.2 q
theorem zir : OpR X (inplaceOp .FloorDiv) (rI zlI fun i j => .int (i / j)):=opI fun i j _ _ _ _ _ hc q => by
 have h1 : (0 : Int) < j:=hc.1
 have h2 : j < 1073741824:=hc.2
 exact ifloordiv_int (by omega) (by rw [Int.fdiv_eq_ediv_of_nonneg i (by omega)]; exact q) (.inl (PyProof.noPylong_small (by omega)))
end
def zjE : V → V → Bool
 | .non,.non => true | .non,.int _ => true | .int _,.non => true | .non,.bl _ => true | .bl _,.non => true | .non,.str _ => true | .str _,.non => true
 | .int _,.int _ => true | .bl _,.bl _ => true | .str _,.str _ => true | .byt _,.byt _ => true
 | .int _,.str _ => true | .str _,.int _ => true | .bl _,.str _ => true | .str _,.bl _ => true
 | _,_ => false
def rEq : R2:=fun x y H Q => zjE x y = true ∧ Q (.bl (decide (x = y))) H
def rNe : R2:=fun x y H Q => zjE x y = true ∧ Q (.bl (!decide (x = y))) H
theorem zgH {i j : Int} : decide (V.int i = V.int j) = (i == j):=by
 rw [Bool.eq_iff_iff]
 simp
theorem zis {i j : Bool} : decide (V.bl i = V.bl j) = (i == j):=by
 rw [Bool.eq_iff_iff]
 simp
theorem zgI {i j : Str} : decide (V.str i = V.str j) = (i == j):=by
 rw [Bool.eq_iff_iff]
 simp
theorem zgJ {i j : Array UInt8} : decide (V.byt i = V.byt j) = (i.toList == j.toList):=by
 rw [Bool.eq_iff_iff]
 cases i
 cases j
 simp
section
variable {X : Cx} {a b c : Expr} {ta tb tc : TE} {pos : Pos}
theorem zK {pins : List (Addr × Obj)} {σ : St} {H : Hp} {s : Shared} {Q : VK} {k k' : Bool} (I : Inv X pins σ H s) (q : Q (.bl k) H) (e : k = k') : EP X pins σ Q (.bool k') s:=by
 subst e
 exact ⟨.bl k,H,I,rfl,q⟩
theorem zbQ : OpR X (compareOp .Eq) rEq:=by
 intro pins s σ H x y v u Q I rx ry h
 obtain ⟨hs,q⟩:=h
 cases x with
 | non =>
  cases rx
  cases y with
  | non => cases ry; exact PySem.EqNone.eq_none_none (zK I q (by simp))
  | bl j => cases ry; exact PySem.EqNone.eq_none_bool (zK I q (by simp))
  | int j => obtain ⟨t',rfl⟩:=ry; exact PySem.EqNone.eq_none_int (zK I q (by simp))
  | str j => obtain ⟨t',rfl⟩:=ry; exact PySem.EqNone.eq_none_str (zK I q (by simp))
  | _ => exact absurd (show false = true from hs) Bool.false_ne_true
 | bl i =>
  cases rx
  cases y with
  | non => cases ry; exact PySem.EqNone.eq_bool_none (zK I q (by simp))
  | bl j => cases ry; exact eq_bool (zK I q zis)
  | str j => obtain ⟨t',rfl⟩:=ry; exact PySem.EqMixed.eq_bool_str (zK I q (by simp))
  | _ => exact absurd (show false = true from hs) Bool.false_ne_true
 | int i =>
  obtain ⟨t,rfl⟩:=rx
  cases y with
  | non => cases ry; exact PySem.EqNone.eq_int_none (zK I q (by simp))
  | int j => obtain ⟨t',rfl⟩:=ry; exact eq_int (zK I q zgH)
  | str j => obtain ⟨t',rfl⟩:=ry; exact PySem.EqMixed.eq_int_str (zK I q (by simp))
  | _ => exact absurd (show false = true from hs) Bool.false_ne_true
 | str i =>
  obtain ⟨t,rfl⟩:=rx
  cases y with
  | non => cases ry; exact PySem.EqNone.eq_str_none (zK I q (by simp))
  | bl j => cases ry; exact PySem.EqMixed.eq_str_bool (zK I q (by simp))
  | int j => obtain ⟨t',rfl⟩:=ry; exact PySem.EqMixed.eq_str_int (zK I q (by simp))
  | str j => obtain ⟨t',rfl⟩:=ry; exact eq_str (zK I q zgI)
  | _ => exact absurd (show false = true from hs) Bool.false_ne_true
 | byt i =>
  obtain ⟨t,rfl⟩:=rx
  cases y with
  | byt j => obtain ⟨t',rfl⟩:=ry; exact PySem.W.eq_bytes (zK I q zgJ)
  | _ => exact absurd (show false = true from hs) Bool.false_ne_true
 | _ => cases y <;> exact absurd (show false = true from hs) Bool.false_ne_true
theorem zit : OpR X (compareOp .NotEq) rNe:=by
 intro pins s σ H x y v u Q I rx ry h
 obtain ⟨hs,q⟩:=h
 cases x with
 | non =>
  cases rx
  cases y with
  | non => cases ry; exact PySem.EqNone.ne_none_none (zK I q (by simp))
  | bl j => cases ry; exact PySem.EqNone.ne_none_bool (zK I q (by simp))
  | int j => obtain ⟨t',rfl⟩:=ry; exact PySem.EqNone.ne_none_int (zK I q (by simp))
  | str j => obtain ⟨t',rfl⟩:=ry; exact PySem.EqNone.ne_none_str (zK I q (by simp))
  | _ => exact absurd (show false = true from hs) Bool.false_ne_true
 | bl i =>
  cases rx
  cases y with
  | non => cases ry; exact PySem.EqNone.ne_bool_none (zK I q (by simp))
  | bl j => cases ry; exact ne_bool (zK I q (congrArg not zis))
  | str j => obtain ⟨t',rfl⟩:=ry; exact PySem.EqMixed.ne_bool_str (zK I q (by simp))
  | _ => exact absurd (show false = true from hs) Bool.false_ne_true
 | int i =>
  obtain ⟨t,rfl⟩:=rx
  cases y with
  | non => cases ry; exact PySem.EqNone.ne_int_none (zK I q (by simp))
  | int j => obtain ⟨t',rfl⟩:=ry; exact ne_int (zK I q (congrArg not zgH))
  | str j => obtain ⟨t',rfl⟩:=ry; exact PySem.EqMixed.ne_int_str (zK I q (by simp))
  | _ => exact absurd (show false = true from hs) Bool.false_ne_true
 | str i =>
  obtain ⟨t,rfl⟩:=rx
  cases y with
  | non => cases ry; exact PySem.EqNone.ne_str_none (zK I q (by simp))
  | bl j => cases ry; exact PySem.EqMixed.ne_str_bool (zK I q (by simp))
  | int j => obtain ⟨t',rfl⟩:=ry; exact PySem.EqMixed.ne_str_int (zK I q (by simp))
  | str j => obtain ⟨t',rfl⟩:=ry; exact ne_str (zK I q (congrArg not zgI))
  | _ => exact absurd (show false = true from hs) Bool.false_ne_true
 | byt i =>
  obtain ⟨t,rfl⟩:=rx
  cases y with
  | byt j => obtain ⟨t',rfl⟩:=ry; exact PySem.W.ne_bytes (zK I q (congrArg not zgJ))
  | _ => exact absurd (show false = true from hs) Bool.false_ne_true
 | _ => cases y <;> exact absurd (show false = true from hs) Bool.false_ne_true
theorem zff : OpR X (compareOp .Lt) (rI0 fun i j => .bl (decide (i < j))):=zkO fun _ _ _ _ _ _ _ q => lt_int q
theorem ziu : OpR X (compareOp .Gt) (rI0 fun i j => .bl (decide (j < i))):=zkO fun _ _ _ _ _ _ _ q => gt_int q
theorem zkp : OpR X (compareOp .GtE) (rI0 fun i j => .bl (decide (j ≤ i))):=zkO fun _ _ _ _ _ _ _ q => ge_int q
theorem zc8 : OpR X (compareOp .IsNot) (fun x y H Q => y = .non ∧ Q (.bl (!decide (x = .non))) H):=by
 intro pins s σ H x y v u Q I rx ry h
 obtain ⟨rfl,q⟩:=h
 cases ry
 refine isnot_none_gen (zK I q ?_)
 cases x <;> first
  | (cases rx; rfl)
  | (obtain ⟨t,rfl⟩:=rx; rfl)
theorem zN (b : Expr) {op : CmpOp} (h : op ≠ .In:=by decide) (h2 : op ≠ .NotIn:=by decide) : behindInMarks op b = false:=by
 have e1 : (op == CmpOp.In) = false:=by cases op <;> first | rfl | exact absurd rfl h
 have e2 : (op == CmpOp.NotIn) = false:=by cases op <;> first | rfl | exact absurd rfl h2
 cases b <;> simp [behindInMarks,e1,e2]
def zlJ (t : TE) : TT:=fun σ H Q => t σ H fun x H' => ∃ k,x = .bl k ∧ Q k H'
theorem zD {op : CmpOp} {r : R2} (ho : OpR X (compareOp op) r) (ha : PE X a ta) (hb : PE X b tb) (hm : behindInMarks op b = false) : PT X (.Compare a [op] [b] pos) (zlJ (tOp r ta tb)):=by
 intro pins s σ H Q I h
 refine wpAny_isTrue_Compare1 (thn (ha pins s σ H _ I h) fun v s1 ⟨x,H1,I1,r1,q1⟩ => thn (hb pins s1 σ H1 _ I1 q1) fun u s2 ⟨y,H2,I2,r2,q2⟩ =>
  thn (ho pins s2 σ H2 x y v u _ I2 r1 r2 q2) fun c s3 ⟨z,H3,I3,r3,k,e,q3⟩ => ?_) hm
 subst e
 cases r3
 exact wpAny_truthy_bool ⟨H3,I3,q3⟩
theorem zeE : (sizeLine : Nat) < 2 ^ 63:=by rw [sizeLine_eq]; decide
theorem vals1 {x : V} {us : List Value} (r : zA [x] us) : ∃ u,us = [u] ∧ RelV x u:=by
 cases r with
 | cons r1 r2 => cases r2; exact ⟨_,rfl,r1⟩
theorem vals2 {x y : V} {us : List Value} (r : zA [x,y] us) : ∃ u w',us = [u,w'] ∧ RelV x u ∧ RelV y w':=by
 cases r with
 | cons r1 r2 =>
  cases r2 with
  | cons r3 r4 => cases r4; exact ⟨_,_,rfl,r1,r3⟩
theorem zd7 (hc : X.calm = true) : zbh X (.builtin "min") (fun xs H Q => ∃ i j,xs = [.int i,.int j] ∧ Q (.int (if j < i then j else i)) H):=by
 intro pins s σ H xs us Q I r h
 obtain ⟨i,j,rfl,q⟩:=h
 obtain ⟨u,w',rfl,⟨t,rfl⟩,⟨t',rfl⟩⟩:=vals2 r
 refine min_two_ints (I.ok.hd hc) fun h' tk k => ⟨_,H,I.kept k,?_,q⟩
 by_cases hj : j < i
 ·rw [if_pos hj,if_pos hj]; exact ⟨_,rfl⟩
 ·rw [if_neg hj,if_neg hj]; exact ⟨_,rfl⟩
end
end L2
namespace L2
open PySem PySem.Spec PyProof.Rows
structure ObjM (h : Heap) (x dx C : Addr) (mA : Str → Option Value) : Prop where
 obj : h.get? x = some (PySem.W.instObj C dx)
 ns : h.Ns1 dx mA
 ne : dx ≠ x
theorem zhq {h : Heap} {dx : Addr} {mA : Str → Option Value} (n : h.Ns1 dx mA) : ∃ od,h.get? dx = some od ∧ ∀ name,PySem.W.lookIn name od = some (mA name):=by
 obtain ⟨o,es,ep,ho,hd,hk,_,hm⟩:=n
 refine ⟨o,ho,fun name => ?_⟩
 have e:=hm name
 unfold nsFind findBy at e
 rw [← Array.find?_toList] at e
 unfold PySem.W.lookIn
 rw [hd]
 dsimp only
 split
 ·rename_i y q
  rw [q] at e
  exact congrArg some e
 ·rename_i q
  rw [q] at e
  have a : es.toList.any (·.refKey) = false:=by
   rw [List.any_eq_false]
   intro y hy
   obtain ⟨z,t,hkey⟩:=hk y (Array.mem_toList_iff.mp hy)
   simp [DictEntry.refKey,hkey]
  have a' : ¬ es.toList.any (·.refKey) = true:=by rw [a]; exact Bool.false_ne_true
  rw [if_neg a']
  exact congrArg some e
theorem ObjM.look {h : Heap} {x dx C : Addr} {mA : Str → Option Value} (I : ObjM h x dx C mA) : ∃ od,PySem.W.InstAt h x (PySem.W.instObj C dx) C (some od) ∧ ∀ name,PySem.W.lookIn name od = some (mA name) :=
 let ⟨od,ho,hl⟩:=zhq I.ns
 ⟨od,⟨I.obj,rfl,rfl,ho⟩,hl⟩
section
variable {prog : Program} {w : World} {A : Around} {E : Value → Shared → Prop} {s : Shared} {K : PySem.W.Frag} {x dx C f : Addr} {mA : Str → Option Value} {name : Str} {v : Value}
end
section
variable {P : Program} {w : World} {H H' : Hp} {h h' : Heap} {a C dx : Addr} {fs fs' : List (Str × V)}
theorem zjF (hok : HOk P w H h) (e : H a = some (.ins C dx fs)) : ∃ mA,ObjM h a dx C mA ∧ (∀ f,zhm (fs.lookup f) (mA f)) ∧ PySem.Within mA (fs.map (·.1)) ∧ fs.length ≤ 1000 ∧ H dx = some (.own a):=by
 obtain ⟨d,z,ne,ob,mA,n,r,q⟩:=(show zR P w H h a (.ins C dx fs) from hok a _ e)
 exact ⟨mA,⟨ob,n,ne⟩,r,q,z,d⟩
end
structure Cls (K : PySem.W.Frag) (C : Addr) : Prop where
 pg : PySem.W.plainGet K C Str.empty = true
 hd : PySem.W.hasDictIn K C = true
 po : PySem.W.plainOver K C = true
 sa : PySem.W.findIn K (.ref C) "__setattr__" = some (some (.builtin "object.__setattr__"))
theorem Cls.get {K : PySem.W.Frag} {C : Addr} (c : Cls K C) (f : Str) : PySem.W.plainGet K C f = true:=c.pg
structure Con (K : PySem.W.Frag) (C : Addr) (f : Str) (v : V) (u : Value) : Prop where
 at_ : PySem.W.findIn K (.ref C) f = some (some u)
 rel : RelV v u
 get : PySem.W.specialIn K u "__get__" = some none
 cp : PySem.W.copiedNames.contains f = false
structure Meth (K : PySem.W.Frag) (C : Addr) (m : Str) (f : Addr) : Prop where
 at_ : PySem.W.findIn K (.ref C) m = some (some (.ref f))
 fn : PySem.W.isFn K (.ref f) = true
 kp : PySem.W.keepIn K (.ref f) = true
section
variable {X : Cx} {pins : List (Addr × Obj)} {σ : St} {H : Hp} {s : Shared} {a C dx : Addr} {fs : List (Str × V)} {f : Str} {v : V} {A : Around} {E : Value → Shared → Prop}
end
section
variable {X : Cx} {o e value : Expr} {f : Str} {pos pos' tpos : Pos} {ta tv : TE}
end
section
variable {X : Cx} {pins : List (Addr × Obj)} {σ : St} {H : Hp} {s : Shared} {A : Around} {E : Value → Shared → Prop} {Q : Value → Shared → Prop} {c : Value} {b : Bool}
inductive TyOf (K : PySem.W.Frag) (H : Hp) : V → Value → Prop where
 | non : TyOf K H .non (.type "NoneType")
 | bl (x : Bool) : TyOf K H (.bl x) (.type "bool")
 | int (i : Int) : TyOf K H (.int i) (.type "int")
 | str (x : Str) : TyOf K H (.str x) (.type "str")
 | flt (x : UInt64) : TyOf K H (.flt x) (.type "float")
 | lst {a : Addr} {xs : List V} (e : H a = some (.lst xs)) : TyOf K H (.ref a) (.type "list")
 | frz {a : Addr} {o : Obj} {xs : List V} (e : H a = some (.frz o (.lst xs))) : TyOf K H (.ref a) (.type "list")
 | tup {a : Addr} {xs : List V} (e : H a = some (.tup xs)) : TyOf K H (.ref a) (.type "tuple")
 | dK {a : Addr} {kvs : List (Key × V)} (e : H a = some (.dK kvs)) : TyOf K H (.ref a) (.type "dict")
 | dT {a : Addr} {kvs : List (List Key × V)} (e : H a = some (.dT kvs)) : TyOf K H (.ref a) (.type "dict")
 | ins {a C dx : Addr} {fs : List (Str × V)} (e : H a = some (.ins C dx fs)) (cl : Cls K C) (ha : PySem.W.findIn K (.ref C) "__class__" = some (some (.builtin "object.__class__")))
   (hn : PySem.W.specialIn K (.builtin "object.__class__") "__get__" = some (some (.builtin "getset_descriptor.__get__"))) (htk : PySem.W.takesIn K (.builtin "object.__class__") = some true)
   (hm : PySem.W.mroIn K C (.type "object") = some true) : TyOf K H (.ref a) (.ref C)
theorem zhr {x : V} {u t : Value} (I : Inv X pins σ H s) (rx : RelV x u) (ty : TyOf X.K H x t) (e : PySem.W.kitOne X.K t c = some b) (h : ∀ tk,Q (.bool b) { s with toks:=tk }) :
  wpAny (model X.prog X.w) A (call (.builtin "isinstance") [u,c]) Q E s:=by
 cases ty with
 | non => cases (show u = Value.none from rx); exact PySem.W.kia_one PySem.W.kitx_none I.kIn True.intro e (fun z => nomatch z) h
 | bl y => cases (show u = Value.bool y from rx); exact PySem.W.kia_one PySem.W.kitx_bool I.kIn True.intro e (fun z => nomatch z) h
 | int i => obtain ⟨t,q⟩:=(show ∃ t,u = Value.int i t from rx); cases q; exact PySem.W.kia_one PySem.W.kitx_int I.kIn True.intro e (fun z => nomatch z) h
 | str y => obtain ⟨t,q⟩:=(show ∃ t,u = Value.str y t from rx); cases q; exact PySem.W.kia_one PySem.W.kitx_str I.kIn True.intro e (fun z => nomatch z) h
 | flt y => obtain ⟨t,q⟩:=(show ∃ t,u = Value.float y t from rx); cases q; exact PySem.W.kia_one PySem.W.kitx_float I.kIn True.intro e (fun z => nomatch z) h
 | @lst a xs ea =>
  cases (show u = Value.ref a from rx)
  obtain ⟨_,_,n,_,h1⟩:=(show zR X.prog X.w H s.heap a (.lst xs) from I.hok a _ ea)
  exact PySem.W.kia_one PySem.W.kitx_list I.kIn ⟨_,h1,rfl⟩ e (fun z => nomatch z) h
 | @frz a ob xs ea =>
  cases (show u = Value.ref a from rx)
  obtain ⟨_,_,_,n,_,h1⟩:=(show zR X.prog X.w H s.heap a (.frz ob (.lst xs)) from I.hok a _ ea)
  exact PySem.W.kia_one PySem.W.kitx_list I.kIn ⟨_,h1,rfl⟩ e (fun z => nomatch z) h
 | @tup a xs ea =>
  cases (show u = Value.ref a from rx)
  obtain ⟨_,_,_,p⟩:=(show zR X.prog X.w H s.heap a (.tup xs) from I.hok a _ ea)
  obtain ⟨o,h1,h2,_⟩:=p
  exact PySem.W.kia_one PySem.W.kitx_tuple I.kIn ⟨o,h1,h2⟩ e (fun z => nomatch z) h
 | @dK a kvs ea =>
  cases (show u = Value.ref a from rx)
  obtain ⟨_,_,vs,_,p⟩:=(show zR X.prog X.w H s.heap a (.dK kvs) from I.hok a _ ea)
  obtain ⟨o,es,ep,h1,h2,_⟩:=p
  exact PySem.W.kia_one PySem.W.kitx_dict I.kIn ⟨o,h1,h2.1⟩ e (fun z => nomatch z) h
 | @dT a kvs ea =>
  cases (show u = Value.ref a from rx)
  obtain ⟨_,_,xs,_,o,es,ep,h1,h2,_⟩:=(show zR X.prog X.w H s.heap a (.dT kvs) from I.hok a _ ea)
  exact PySem.W.kia_one PySem.W.kitx_dict I.kIn ⟨o,h1,h2.1⟩ e (fun z => nomatch z) h
 | @ins a C dx fs ea cl ha hn htk hm =>
  cases (show u = Value.ref a from rx)
  obtain ⟨mA,O,_⟩:=zjF I.hok ea
  obtain ⟨od,J,_⟩:=O.look
  exact PySem.W.kia_one (PySem.W.kitx_own (cl.get _) cl.hd ha hn htk hm) I.kIn J e (fun z => nomatch z) h
end
end L2
namespace L2
open PySem PySem.Spec PyProof.Rows
structure Room (k : Nat) (A : Around) : Prop where
 hd : A.handled = none
 dp : A.depth + 3 * k + 5 < recursionLimit
 un : A.units + 16 * k + 200 < cLine
theorem Room.mono {j k : Nat} {A : Around} (r : Room k A) (h : j ≤ k) : Room j A:=⟨r.hd,by have:=r.dp; omega,by have:=r.un; omega⟩
theorem Room.deeper {k : Nat} {A : Around} (r : Room (k + 1) A) (env : Env) : Room k (A.deeper env) :=
 ⟨r.hd,by have:=r.dp; show A.depth + 1 + 3 * k + 5 < _; omega,by have:=r.un; show A.units + 3 + 16 * k + 200 < _; omega⟩
theorem Room.depth {k : Nat} {A : Around} (r : Room k A) : A.depth < recursionLimit:=by have:=r.dp; omega
theorem Room.units {k : Nat} {A : Around} (r : Room k A) : A.units + 64 < cLine:=by have:=r.un; omega
def zkR : TA:=fun _ H Q => Q [] H
def zgK (ta : TE) (tr : TA) : TA:=fun σ H Q => ta σ H fun x H1 => tr σ H1 fun xs H2 => Q (x :: xs) H2
section
variable {X : Cx} {e : Expr} {es : List Expr} {te : TE} {t : TA} {pos : Pos}
theorem zg : PA X [] zkR:=fun _ _ _ _ H Q I h => Calls.spliced_nil ⟨[],H,I,.nil,h⟩
theorem za (ha : PE X e te) (hr : PA X es t) (hs : starEach (e :: es) X.env = (false,eval e X.env) :: starEach es X.env:=by rfl) : PA X (e :: es) (zgK te t):=by
 intro pos pins s σ H Q I h
 rw [hs]
 show wpAny _ _ (spliced ((false,eval e X.env) :: backTo pos (starEach es X.env))) _ _ s
 refine Calls.spliced_cons (thn (ha pins s σ H _ I h) fun u s1 ⟨x,H1,I1,r1,q1⟩ => ?_)
 exact thn (hr pos pins s1 σ H1 _ I1 q1) fun us s2 ⟨xs,H2,I2,r2,q2⟩ => ⟨x :: xs,H2,I2,.cons r1 r2,q2⟩
def zmf (t : TA) : TE:=fun σ H Q => t σ H fun xs H1 => xs.length ≤ sizeLine ∧ ∀ p,H1 p = none → Q (.ref p) (upd H1 p (.tup xs))
def zge (t : TA) : TE:=fun σ H Q => t σ H fun xs H1 => xs.length ≤ sizeLine ∧ ∀ p,H1 p = none → Q (.ref p) (upd H1 p (.lst xs))
theorem za5 {x1} (h : PA X es t) : PE X (.Tuple es x1 pos) (zmf t):=by
 intro pins s σ H Q I hq
 refine wpAny_Tuple_spliced (thn (h pos pins s σ H _ I hq) fun us s1 ⟨xs,H1,I1,r,z,q⟩ => ⟨by rw [← r.length]; exact z,?_⟩)
 have hf : H1 s1.heap.objs.size = none:=I1.hok.fresh (Nat.le_refl _)
 refine ⟨.ref s1.heap.objs.size,upd H1 s1.heap.objs.size (.tup xs),I1.laid (t':=s1.toks) (fun b u e => Heap.get?_push_of_some _ e) (Nat.le_refl _) ?_,rfl,q _ hf⟩
 exact ⟨z,us,r,⟨_,Heap.get?_push_size _ rfl,rfl,_,rfl⟩⟩
theorem zL (h : PA X es t) : PE X (.List es pos) (zge t):=by
 intro pins s σ H Q I hq
 refine wpAny_List_spliced (thn (h pos pins s σ H _ I hq) fun us s1 ⟨xs,H1,I1,r,z,q⟩ => ⟨by rw [← r.length]; exact z,?_⟩)
 have hf : H1 s1.heap.objs.size = none:=I1.hok.fresh (Nat.le_refl _)
 refine ⟨.ref s1.heap.objs.size,upd H1 s1.heap.objs.size (.lst xs),I1.laid (t':=s1.toks) (fun b u e => Heap.get?_push_of_some _ e) (Nat.le_refl _) ?_,rfl,q _ hf⟩
 exact ⟨z,us,0,r,Heap.get?_push_size _ rfl⟩
end
abbrev Sp:=List V → Hp → VK → XK → Prop
abbrev CXT:=List Env → Hp → Shared → XK → Value → Shared → Prop
structure Env0 (P : Program) (w : World) (K : PySem.W.Frag) (mg : Str → Option Value) (base : Heap) (A : Around) (outer : List Env) (s : Shared) (H : Hp) : Prop where
 frames : A.frames = some outer
 mod : Mod K mg base
 bs : ∀ b o,base.get? b = some o → s.heap.get? b = some o ∧ H b = none
 bsz : base.objs.size ≤ s.heap.objs.size
 funs : s.heap.FunFrames base outer
 frf : ∀ b ∈ frs outer,H b = none
 hok : HOk P w H s.heap
 bare : AllBare s.gens
def CE (outer : List Env) (P : Program) (w : World) (H : Hp) (s : Shared) (Q : VK) (u : Value) (s' : Shared) : Prop :=
 ∃ v H',s'.os = s.os ∧ AllBare s'.gens ∧ Un (frs outer) [] H H' s.heap s'.heap ∧ HOk P w H' s'.heap ∧ RelV v u ∧ Q v H'
def CR (CX : CXT) (outer : List Env) (P : Program) (w : World) (H : Hp) (s : Shared) (Q : VK) (E : XK) (r : Result) (s' : Shared) : Prop :=
 match r with
 | .ok (.ret u) => CE outer P w H s Q u s'
 | .ok _ => False
 | .error e => CX outer H s E e s'
structure FnOk (P : Program) (w : World) (K : PySem.W.Frag) (mg : Str → Option Value) (base : Heap) (CX : CXT) (k : Nat) (f : Addr) (fd : FuncData) (ps : List Str) (sp : Sp) : Prop where
 len : ∀ vs H Q E,sp vs H Q E → vs.length = ps.length
 run : ∀ (A : Around) (outer : List Env) (s : Shared) (H : Hp) (args : Args) (us : List Value) (vs : List V) (Q : VK) (E : XK),Room k A → Env0 P w K mg base A outer s H → BindsTo s fd args (ps.zip us) → zA vs us → sp vs H Q E →
  codeAny (model P w) A (.call (.ref f) args) (CR CX outer P w H s Q E) s
section
variable {X : Cx} {pins : List (Addr × Obj)} {σ : St} {H : Hp} {s s' : Shared}
theorem Inv.env0 (I : Inv X pins σ H s) : Env0 X.prog X.w X.K X.mg X.base X.A X.stack s H :=
 ⟨I.ok.frames,I.ok.mod,I.bs,Nat.le_trans I.ok.bsz I.sz,I.stack,I.stkFree,I.hok,I.bare⟩
theorem Inv.after {Q : VK} {u : Value} (I : Inv X pins σ H s) (h : CE X.stack X.prog X.w H s Q u s') : EP X pins σ Q u s':=by
 obtain ⟨v,H',os,bare,un,hok,r,q⟩:=h
 obtain ⟨hh,g,d,t,os'⟩:=s'
 obtain rfl : os' = s.os:=os
 exact ⟨v,H',I.call (h':=hh) (g':=g) (d':=d) (t':=t) (ch:=[]) un hok bare (fun b z => absurd z (by simp)),r,q⟩
end
def ziv (sp : Sp) (dvs : List V) (E : XK) (t : TA) : TE:=fun σ H Q => t σ H fun vs H1 => sp (vs ++ dvs) H1 Q E
def Binds (K : PySem.W.Frag) (fd : FuncData) (ps : List Str) (ds : List Value) : Prop :=
 ∀ (s : Shared) (us : List Value),K.In s.heap → (us ++ ds).length = ps.length → BindsTo s fd ⟨us,[]⟩ (ps.zip (us ++ ds))
theorem Binds.all {K : PySem.W.Frag} {fd : FuncData} {ps : List Str} (h : ∀ us : List Value,us.length = ps.length → bindArgs fd ⟨us,[]⟩ = pure (ps.zip us)) : Binds K fd ps []:=fun s us _ hl => by
 rw [List.append_nil] at hl ⊢
 exact .of_eq (h us hl)
def zgf (CX : CXT) (X : Cx) (E : XK) : Prop:=∀ (pins : List (Addr × Obj)) (σ : St) (H : Hp) (s : Shared) (e : Value) (s' : Shared),Inv X pins σ H s → CX X.stack H s E e s' → X.xe e s'
section
variable {X : Cx} {CX : CXT} {k : Nat} {f C : Addr} {fd : FuncData} {ps : List Str} {sp : Sp} {dvs : List V} {ds : List Value} {E : XK} {x m : Str} {p pos apos : Pos} {e o : Expr} {es : List Expr} {ta : TE} {t : TA}
theorem zkS {pins : List (Addr × Obj)} {σ : St} {H : Hp} {s : Shared} {Q : VK} {us : List Value} {vs : List V} (F : FnOk X.prog X.w X.K X.mg X.base CX k f fd ps sp) (hr : Room k X.A) (hb : Binds X.K fd ps ds) (hd : zA dvs ds) (hx : zgf CX X E)
  (I : Inv X pins σ H s) (r : zA vs us) (h : sp (vs ++ dvs) H Q E) : wpAny (model X.prog X.w) X.A (call (.ref f) us) (EP X pins σ Q) X.xe s:=by
 have r2 : zA (vs ++ dvs) (us ++ ds):=r.append hd
 have hl : (us ++ ds).length = ps.length:=by rw [← r2.length]; exact F.len _ _ _ _ h
 refine wpAny_call (codeAny_mono (F.run X.A X.stack s H ⟨us,[]⟩ (us ++ ds) (vs ++ dvs) Q E hr I.env0 (hb s us I.kIn hl) r2 h) fun r s' hq => ?_)
 cases r with
 | error e => exact hx pins σ H s e s' I hq
 | ok fl =>
  cases fl with
  | ret u => exact I.after hq
  | next => exact False.elim hq
  | brk => exact False.elim hq
  | cont => exact False.elim hq
theorem zz (F : FnOk X.prog X.w X.K X.mg X.base CX k f fd ps sp) (hr : Room k X.A) (hg : Gl X x) (hm : X.mg x = some (.ref f)) (hk : PySem.W.keepIn X.K (.ref f) = true) (hb : Binds X.K fd ps ds) (hd : zA dvs ds) (hx : zgf CX X E)
  (ha : PA X (e :: es) t) (hdb : (x == ("__debug__" : Str)) = false:=by decide) (he : starEach (e :: es) X.env = (false,eval e X.env) :: starEach es X.env:=by rfl) (hpl : (backTo pos (starEach es X.env)).any (·.1) = false:=by rfl) :
  PE X (.Call (.Name x p) (e :: es) [] pos) (ziv sp dvs E t):=by
 intro pins s σ H Q I h
 refine wpAny_Call_Name_kw (zbY I hg hm ?_ hdb)
 refine PySem.W.callWith_K (h₀:=X.base) I.ok.mod.kin hk (thn (ha pos pins s σ H _ I h) fun us s1 ⟨vs,H1,I1,r,q⟩ => ⟨I1.kIn,?_⟩) he hpl
 exact zkS F hr hb hd hx I1 r q
structure Mk (K : PySem.W.Frag) (C f : Addr) : Prop where
 makes : PySem.W.makesIn K C = true
 init : PySem.W.findIn K (.ref C) "__init__" = some (some (.ref f))
 fn : PySem.W.isFn K (.ref f) = true
 kp : PySem.W.keepIn K (.ref C) = true
end
section
variable {X : Cx} {CX : CXT} {k : Nat} {f C : Addr} {fd : FuncData} {ps ks : List Str} {sp : Sp} {E : XK} {x m : Str} {p pos apos kpos : Pos} {e o : Expr} {es : List Expr} {kws : List Keyword} {te ta : TE} {t tk : TA} {nm : Option Str}
structure KBinds (K : PySem.W.Frag) (fd : FuncData) (ps ks : List Str) (g : List Value → List Value → List Value) (gV : List V → List V → List V) : Prop where
 to : ∀ (s : Shared) (us ws : List Value),K.In s.heap → (g us ws).length = ps.length → BindsTo s fd ⟨us,ks.zip ws⟩ (ps.zip (g us ws))
 rel : ∀ {vs : List V} {us : List Value} {zs : List V} {ws : List Value},zA vs us → zA zs ws → zA (gV vs zs) (g us ws)
variable {g : List Value → List Value → List Value} {gV : List V → List V → List V}
end
structure FnScope (N P : List Str) (sc : Scope) : Prop where
 kind : sc.kind = .function
 co : sc.isCoroutine = false
 gen : sc.isGenerator = false
 nd : N.Nodup
 pre : N.take P.length = P
 par : ∀ x ∈ P,sc.names.lookup x = some .local ∨ sc.names.lookup x = some .cell
 nofree : ∀ y ∈ sc.names,y.2 ≠ .free
theorem zd8 {kindOf : Str → Option NameKind} {x : Str} : ∀ {binds : List (Str × Value)} {m : Str → Option Value},(∀ v,(x,v) ∉ binds) → bindL kindOf binds m x = m x
 | [],_,_ => rfl
 | (n,v) :: r,m,h => by
  unfold bindL
  rw [zd8 fun w hw => h w (List.mem_cons_of_mem _ hw)]
  split
  ·have : x ≠ n:=by rintro rfl; exact h v List.mem_cons_self
   simp [this]
  ·rfl
theorem zd9 {kindOf : Str → Option NameKind} {x : Str} : ∀ {binds : List (Str × Value)} {m : Str → Option Value},(∀ v,(x,v) ∉ binds) → bindC kindOf binds m x = m x
 | [],_,_ => rfl
 | (n,v) :: r,m,h => by
  unfold bindC
  rw [zd9 fun w hw => h w (List.mem_cons_of_mem _ hw)]
  split
  ·rfl
  ·have : x ≠ n:=by rintro rfl; exact h v List.mem_cons_self
   simp [this]
theorem zea {kindOf : Str → Option NameKind} {x : Str} {v : Value} : ∀ {P : List Str} {vs : List Value} {i : Nat} {m : Str → Option Value},P.Nodup → P[i]? = some x → vs[i]? = some v → kindOf x = some .local →
  bindL kindOf (P.zip vs) m x = some v
 | [],_,_,_,_,h,_,_ => by simp at h
 | _ :: _,[],_,_,_,_,h,_ => by simp at h
 | p :: P,w :: vs,0,m,nd,h1,h2,hk => by
  simp at h1 h2; subst h1; subst h2
  show bindL kindOf ((p,w) :: P.zip vs) m p = _
  unfold bindL
  rw [zd8 fun v hv => (List.nodup_cons.mp nd).1 (List.of_mem_zip hv).1,if_pos hk]
  simp
 | p :: P,w :: vs,i + 1,m,nd,h1,h2,hk => by
  show bindL kindOf ((p,w) :: P.zip vs) m x = _
  unfold bindL
  exact zea (i:=i) (List.nodup_cons.mp nd).2 (by simpa using h1) (by simpa using h2) hk
theorem zeb {kindOf : Str → Option NameKind} {x : Str} {v : Value} : ∀ {P : List Str} {vs : List Value} {i : Nat} {m : Str → Option Value},P.Nodup → P[i]? = some x → vs[i]? = some v → kindOf x ≠ some .local →
  bindC kindOf (P.zip vs) m x = some v
 | [],_,_,_,_,h,_,_ => by simp at h
 | _ :: _,[],_,_,_,_,h,_ => by simp at h
 | p :: P,w :: vs,0,m,nd,h1,h2,hk => by
  simp at h1 h2; subst h1; subst h2
  show bindC kindOf ((p,w) :: P.zip vs) m p = _
  unfold bindC
  rw [zd9 fun v hv => (List.nodup_cons.mp nd).1 (List.of_mem_zip hv).1,if_neg hk]
  simp
 | p :: P,w :: vs,i + 1,m,nd,h1,h2,hk => by
  show bindC kindOf ((p,w) :: P.zip vs) m x = _
  unfold bindC
  exact zeb (i:=i) (List.nodup_cons.mp nd).2 (by simpa using h1) (by simpa using h2) hk
def start (N : List Str) (vs : List V) : St:=vs.map some ++ List.replicate (N.length - vs.length) none
def zcs (CX : CXT) (P : Program) (w : World) (K : PySem.W.Frag) (mg : Str → Option Value) (base : Heap) (N : List Str) (qual : Str) (scope : Scope) (f : Addr) (cd : Value) (A : Around) (outer : List Env) (s : Shared) (H : Hp) (E : XK) : Cx where
 prog:=P
 w:=w
 K:=K
 mg:=mg
 base:=base
 A:=A.deeper (envOfC qual scope s.heap.objs.size f cd)
 N:=N
 s₀:=s
 H₀:=H
 env:=envOfC qual scope s.heap.objs.size f cd
 outer:=outer
 stack:=envOfC qual scope s.heap.objs.size f cd :: outer
 ex:=[]
 calm:=true
 fn:=fun _ => true
 pn:=[]
 xe:=fun e s' => wpAny (model P w) (A.deeper (envOfC qual scope s.heap.objs.size f cd)) (leaving (envOfC qual scope s.heap.objs.size f cd) e) (fun _ s'' => CX outer H s E e s'') (fun e' s'' => CX outer H s E e' s'') s'
theorem zfg {sc : Scope} {n : Nat} {x : Str} (h : sc.names.lookup x = some .cell) : ∃ c,(cellsFrom n sc.names []).lookup x = some c:=by
 have q:=PySem.W.cellsFrom_some sc.names n [] (.inl h)
 exact Option.isSome_iff_exists.mp q
theorem zec {CX : CXT} {P : Program} {w : World} {K : PySem.W.Frag} {mg : Str → Option Value} {base : Heap} {N ps : List Str} {qual : Str} {scope : Scope} {f : Addr} {cd : Value} {A : Around} {outer : List Env} {s s1 : Shared} {H : Hp} {E : XK} {us : List Value} {vs : List V}
  (S : FnScope N ps scope) (hd : A.handled = none) (e0 : Env0 P w K mg base A outer s H) (hl : vs.length = ps.length) (r : zA vs us)
  (x : InCallC s s.heap.objs.size (bindL (envOfC qual scope s.heap.objs.size f cd).kindOf (ps.zip us) fun _ => none) (cellsFrom (s.heap.objs.size + 1) scope.names []) (bindC (envOfC qual scope s.heap.objs.size f cd).kindOf (ps.zip us) fun _ => none) s1) :
  Inv (zcs CX P w K mg base N qual scope f cd A outer s H E) [] (start N vs) H s1:=by
 have hpl : ps.length ≤ N.length:=by have:=congrArg List.length S.pre; rw [List.length_take] at this; omega
 obtain ⟨h1,tk,rfl,hk⟩:=x.done
 have noA : ∀ b : Addr,b ∉ (zcs CX P w K mg base N qual scope f cd A outer s H E).ex:=fun b z => absurd (show b ∈ ([] : List Addr) from z) (by simp)
 refine ⟨⟨e0.mod,S.kind,rfl,rfl,Nat.le_refl _,fun y z c h1 h2 => ?_,fun y hy => ?_,fun y c _ h => ?_,fun _ => hd,Around.frames_deeper e0.frames,.inr ⟨rfl,rfl⟩,fun b z => absurd z (noA b),e0.bs,e0.bsz,fun b _ _ => noA b,fun b z => absurd z (noA b),e0.funs,e0.frf⟩,
  rfl,e0.bare,Un.kept hk,⟨_,x.toInCall.ns,fun i y v h1 h2 h3 => ?_⟩,fun y c h => ⟨_,x.cell y c h⟩,e0.hok.fresh (Nat.le_refl _),fun y c h => ?_,fun p hp => absurd (show p ∈ ([] : List (Addr × Obj)) from hp) (by simp),e0.hok.kept hk,?_⟩
 ·exact name_of_addr x.apart (PySem.mem_of_lookup h1) (PySem.mem_of_lookup h2)
 ·have hy : scope.names.lookup y = some .cell ∨ scope.names.lookup y = some .free:=hy
  rcases hy with hy | hy
  ·exact zfg hy
  ·exact absurd rfl (S.nofree _ (PySem.mem_of_lookup hy))
 ·exact Nat.le_of_lt (x.above y c (PySem.mem_of_lookup h))
 ·have hi : i < vs.length:=by
   unfold start at h2
   by_cases hi : i < vs.length
   ·exact hi
   ·rw [List.getElem?_append_right (by simpa using hi)] at h2
    rw [List.getElem?_replicate] at h2
    split at h2 <;> cases h2
  have ha : vs[i]? = some v:=by
   unfold start at h2
   rw [List.getElem?_append_left (by simpa using hi),List.getElem?_map] at h2
   cases e : vs[i]? with
   | none => rw [e] at h2; cases h2
   | some a => rw [e] at h2; cases h2; rfl
  obtain ⟨u,hu,rv⟩:=r.get ha
  have hp : ps[i]? = some y:=by
   rw [← S.pre,List.getElem?_take_of_lt (by omega)]; exact h1
  have ndP : ps.Nodup:=by rw [← S.pre]; exact S.nd.sublist (List.take_sublist _ _)
  refine ⟨u,rv,?_⟩
  rcases S.par y (List.mem_of_getElem? hp) with k | k
  ·exact .inl ⟨k,zea ndP hp hu k⟩
  ·obtain ⟨c,e⟩:=zfg (n:=s.heap.objs.size + 1) k
   refine .inr ⟨.inl k,c,e,?_⟩
   have q:=x.cell y c e
   rw [zeb ndP hp hu (by show scope.names.lookup y ≠ _; rw [k]; decide)] at q
   exact q
 ·exact e0.hok.fresh (Nat.le_of_lt (x.above y c (PySem.mem_of_lookup h)))
 ·unfold start
  show _ = N.length
  rw [List.length_append,List.length_map,List.length_replicate]
  omega
theorem zkq {CX : CXT} {P : Program} {w : World} {K : PySem.W.Frag} {mg : Str → Option Value} {base : Heap} {k : Nat} {f : Addr} {name qual : Str} {params : Arguments} {body : List Stmt} {scope : Scope} {dV kV doc pm cdv ct oc : Value} {an od : Option Addr}
  {osl : Array (Option Value)} {N ps : List Str} {sp : Sp} (lk : K.lookup f = some ⟨oc,od,.func (PySem.W.fnOf name qual params body scope dV kV doc pm an cdv ct),osl⟩) (hcd : PySem.W.codeIn K cdv qual = true) (S : FnScope N ps scope)
  (len : ∀ vs H Q E,sp vs H Q E → vs.length = ps.length)
  (hbody : ∀ (A : Around) (outer : List Env) (s : Shared) (H : Hp) (vs : List V) (Q : VK) (E : XK),Room k (A.deeper (envOfC qual scope s.heap.objs.size f cdv)) → sp vs H Q E →
   ∃ t,PSs (zcs CX P w K mg base N qual scope f cdv A outer s H E) body t ∧ t { nx:=fun _ H' => Q .non H',rt:=Q } (start N vs) H) :
  FnOk P w K mg base CX (k + 1) f (PySem.W.fnOf name qual params body scope dV kV doc pm an cdv ct) ps sp:=by
 refine ⟨len,fun A outer s H args us vs Q E hr e0 hb r hsp => ?_⟩
 have hl:=len _ _ _ _ hsp
 have KX : K.In s.heap:=e0.mod.kin.keeps fun b o e => (e0.bs b o e).1
 have lim : s.heap.NoLimit:=e0.mod.nolimit.keeps fun b o e => (e0.bs b o e).1
 have hkind : ∀ y ∈ ps.zip us,scope.names.lookup y.1 = some .local ∨ (scope.names.lookup y.1 = some .cell ∧ ((cellsFrom (s.heap.objs.size + 1) scope.names []).lookup y.1).isSome = true):=fun ⟨n,v⟩ hy => by
  rcases S.par n (List.of_mem_zip hy).1 with q | q
  ·exact .inl q
  ·exact .inr ⟨q,PySem.W.cellsFrom_some _ _ _ (.inl q)⟩
 refine codeAny_call_function hr.depth (KX _ _ lk) rfl S.co S.gen rfl (PySem.W.codeRec_of KX hcd) (hb _ _ _ _ ?_)
 refine wpAny_newFunctionEnv_cells S.kind hkind fun env he s1 x => ?_
 subst he
 refine ⟨lim.keeps x.toInCall.keep,codeAny_func ?_⟩
 obtain ⟨t,ht,hq⟩:=hbody A outer s H vs Q E (hr.deeper _) hsp
 have I : Inv (zcs CX P w K mg base N qual scope f cdv A outer s H E) [] (start N vs) H s1:=zec S hr.hd e0 hl r x
 refine wpAny_mono (ht [] s1 (start N vs) H _ I hq) (fun fl s' hs => ?_) fun e s' hs => hs
 have fin : ∀ {σ' : St} {H' : Hp} {v : V} {u : Value},Inv (zcs CX P w K mg base N qual scope f cdv A outer s H E) [] σ' H' s' → RelV v u → Q v H' → CE outer P w H s Q u s' :=
  fun {σ' H' v u} J rv q => ⟨v,H',J.os,J.bare,J.base,J.hok,rv,q⟩
 cases fl with
 | ret u =>
  obtain ⟨v,σ',H',J,rv,q⟩:=hs
  exact fin J rv q
 | next =>
  obtain ⟨σ',H',J,q⟩:=hs
  exact fin (v:=V.non) (u:=Value.none) J rfl q
 | brk =>
  obtain ⟨_,_,_,q⟩:=hs
  exact False.elim q
 | cont =>
  obtain ⟨_,_,_,q⟩:=hs
  exact False.elim q
end L2
namespace L2
open PySem PySem.Spec PyProof.Rows
section
variable {X : Cx} {x : Str} {p pos : Pos} {e : Expr} {es : List Expr} {t : TA} {id T : String} {r : List V → Hp → VK → Prop}
def tCB (r : List V → Hp → VK → Prop) (t : TA) : TE:=fun σ H Q => t σ H fun vs H1 => r vs H1 Q
theorem zr (hc : zbh X (.builtin id) r) (hg : Gl X x) (hm : X.mg x = none) (hv : bootBuiltins x = some (.builtin id)) (ha : PA X (e :: es) t) (hn : x ≠ "__name__":=by decide) (hdb : (x == ("__debug__" : Str)) = false:=by decide)
  (he : starEach (e :: es) X.env = (false,eval e X.env) :: starEach es X.env:=by rfl) (hpl : (backTo pos (starEach es X.env)).any (·.1) = false:=by rfl) : PE X (.Call (.Name x p) (e :: es) [] pos) (tCB r t):=by
 intro pins s σ H Q I h
 refine wpAny_Call_Name_kw (zbm I hg hm hv ?_ hn hdb)
 exact PyProof.Rows.callWith_builtin1 (thn (ha pos pins s σ H _ I h) fun us s1 ⟨vs,H1,I1,r1,q1⟩ => hc pins s1 σ H1 vs us Q I1 r1 q1) he hpl
theorem zaT (hc : zbh X (.type T) r) (hg : Gl X x) (hm : X.mg x = none) (hv : bootBuiltins x = some (.type T)) (ha : PA X (e :: es) t) (hn : x ≠ "__name__":=by decide) (hdb : (x == ("__debug__" : Str)) = false:=by decide)
  (he : starEach (e :: es) X.env = (false,eval e X.env) :: starEach es X.env:=by rfl) (hpl : (backTo pos (starEach es X.env)).any (·.1) = false:=by rfl) : PE X (.Call (.Name x p) (e :: es) [] pos) (tCB r t):=by
 intro pins s σ H Q I h
 refine wpAny_Call_Name_kw (zbm I hg hm hv ?_ hn hdb)
 exact PyProof.Rows.callWith_type1 (thn (ha pos pins s σ H _ I h) fun us s1 ⟨vs,H1,I1,r1,q1⟩ => hc pins s1 σ H1 vs us Q I1 r1 q1) he hpl
end
end L2
namespace HT
open PySem PyProof.Rows
section
open PySem.SeqAt
open PySem.AutoSeq1 (wpAny_loadPart')
open PySem.MeetsSeq PySem.MeetsSeq2 PySem.MeetsSeq3
end
section
variable {prog : Program} {w : World} {A : Around} {E : Value → Shared → Prop} {s : Shared}
theorem cat_tup {t b : Addr} {vs ws : List Value} {Q : Value → Shared → Prop} (ht : IsTup s.heap t vs.toArray) (hb : IsTup s.heap b ws.toArray) (hv : vs ≠ [])
  (h1 : ws = [] → Q (.ref t) s) (h2 : ws ≠ [] → Q (.ref s.heap.objs.size) { s with heap:=s.heap.push { cls:=.type "tuple",data:=.seq (vs ++ ws).toArray } })
  (hsz : vs.length + ws.length ≤ sizeLine) : wpAny (model prog w) A (binaryOp .Add (.ref t) (.ref b)) Q E s:=by
 obtain ⟨⟨cls,dd,data,sl⟩,ho,hc,n,hd⟩:=id ht
 obtain ⟨⟨cls2,dd2,data2,sl2⟩,ho2,hc2,n2,hd2⟩:=id hb
 simp only at hc hd hc2 hd2
 subst hc hd hc2 hd2
 have e : vs.toArray ++ ws.toArray = (vs ++ ws).toArray:=by simp
 by_cases hw : ws = []
 ·exact concat_meets ⟨_,ho,rfl⟩ ⟨_,ho2,rfl⟩ noFill_tuple_add seq_tuple_add PySem.F.slot_tuple_add PySem.F.entry_tuple_add (PySem.F.args_tuple_add_2 _ _)
   (tuple_addW1 t b vs.toArray ws.toArray n n2 dd dd2 sl sl2 (by simpa using hv) (by simp [hw])) ⟨ho,ho2,h1 hw⟩
 ·refine concat_meets ⟨_,ho,rfl⟩ ⟨_,ho2,rfl⟩ noFill_tuple_add seq_tuple_add PySem.F.slot_tuple_add PySem.F.entry_tuple_add (PySem.F.args_tuple_add_2 _ _)
   (tuple_addW2 t b vs.toArray ws.toArray n n2 dd dd2 sl sl2 (by simpa using hv) (by simpa using hw) (by rw [List.size_toArray,List.size_toArray]; exact hsz)) ⟨ho,ho2,?_⟩
  rw [e]
  exact h2 hw
def sIx (n d : Nat) : Option Int → Nat
 | none => d
 | some v => if v < 0 then (v + (n : Int)).toNat else min v.toNat n
theorem sIx_none (n d : Nat) : sIx n d none = d:=rfl
theorem sIx_nat (n d k : Nat) : sIx n d (some (k : Int)) = min k n:=by
 show (if (k : Int) < 0 then ((k : Int) + (n : Int)).toNat else min (k : Int).toNat n) = min k n
 rw [if_neg (by omega),Int.toNat_natCast]
end
end HT
namespace L2
open PySem PySem.Spec PyProof.Rows
abbrev TO:=St → Hp → (Option Int → Hp → Prop) → Prop
def PO (X : Cx) (e : Option Expr) (t : TO) : Prop :=
 ∀ (pins : List (Addr × Obj)) (s : Shared) (σ : St) (H : Hp) (Q : Option Int → Hp → Prop),Inv X pins σ H s → t σ H Q →
  wpAny (model X.prog X.w) X.A (evalPart e X.env) (fun u s' => ∃ o H',Inv X pins σ H' s' ∧ IsPart u o ∧ Q o H') X.xe s
def zjG : TO:=fun _ H Q => Q none H
def zlK (t : TE) : TO:=fun σ H Q => t σ H fun x H1 => ∃ i,x = .int i ∧ Q (some i) H1
theorem intsAre_of {ns : List Int} : ∀ {us : List Value},zA (ns.map V.int) us → IntsAre us ns:=by
 induction ns with
 | nil => intro us r; rw [List.map_nil] at r; cases r; exact .nil
 | cons n ns ih =>
  intro us r
  rw [List.map_cons] at r
  cases r with
  | cons r1 r2 =>
   obtain ⟨t,e⟩:=r1
   subst e
   exact .cons n t (ih r2)
section
variable {X : Cx} {e : Expr} {te : TE} {lo hi : Option Expr} {tl th : TO} {pos p2 : Pos}
theorem zc9 : PO X none zjG:=by
 intro pins s σ H Q I h
 rw [evalPart_none]
 exact wpAny_pure ⟨none,H,I,.none,h⟩
theorem zda (h : PE X e te) : PO X (some e) (zlK te):=by
 intro pins s σ H Q I hw
 rw [evalPart_some]
 refine thn (h pins s σ H _ I hw) fun u s1 ⟨x,H1,I1,r1,q1⟩ => ?_
 obtain ⟨i,rfl,q⟩:=q1
 obtain ⟨t,rfl⟩:=r1
 exact ⟨some i,H1,I1,.int i t,q⟩
def SlR (X : Cx) (r : V → Option Int → Option Int → Hp → VK → Prop) : Prop :=
 ∀ (pins : List (Addr × Obj)) (s : Shared) (σ : St) (H : Hp) (x : V) (v vl vu : Value) (lo hi : Option Int) (sl : Addr) (Q : VK),Inv X pins σ H s → RelV x v → s.heap.IsSliceOf sl vl vu .none → IsPart vl lo → IsPart vu hi → r x lo hi H Q →
  ∃ T id,typeLookup (.type T) "__getitem__" = pure (some (.builtin id)) ∧ s.TypeIs v T ∧ wpAny (model X.prog X.w) X.A (getItem v (.ref sl)) (EP X pins σ Q) X.xe s
def tSl (r : V → Option Int → Option Int → Hp → VK → Prop) (te : TE) (tl th : TO) : TE:=fun σ H Q => te σ H fun x H1 => tl σ H1 fun l H2 => th σ H2 fun u H3 => r x l u H3 Q
theorem zct {r : V → Option Int → Option Int → Hp → VK → Prop} (hr : SlR X r) (he : PE X e te) (hl : PO X lo tl) (hu : PO X hi th) : PE X (.Subscript e (.Slice lo hi none p2) pos) (tSl r te tl th):=by
 intro pins s σ H Q I h
 refine Subscript_ (thn (he pins s σ H _ I h) fun v s1 ⟨x,H1,I1,r1,q1⟩ => ?_)
 refine wpAny_Slice (thn (hl pins s1 σ H1 _ I1 q1) fun vl s2 ⟨l,H2,I2,pl,q2⟩ => thn (hu pins s2 σ H2 _ I2 q2) fun vu s3 ⟨u,H3,I3,pu,q3⟩ => ?_)
 rw [evalPart_none]
 refine wpAny_pure ?_
 have I4 : Inv X pins σ H3 { s3 with heap:=s3.heap.push { cls:=.type "slice",data:=.fields #[vl,vu,.none] } }:=I3.kept (t':=s3.toks) fun b ob q => Heap.get?_push_of_some _ q
 obtain ⟨T,id,hT,ht,hg⟩:=hr pins { s3 with heap:=s3.heap.push { cls:=.type "slice",data:=.fields #[vl,vu,.none] } } σ H3 x v vl vu l u s3.heap.objs.size Q I4 r1 (Heap.IsSliceOf.new ..) pl pu q3
 show wpAny (model X.prog X.w) X.A (subscriptTail e (.Slice lo hi none p2) v (.ref s3.heap.objs.size)) (EP X pins σ Q) X.xe { s3 with heap:=s3.heap.push { cls:=.type "slice",data:=.fields #[vl,vu,.none] } }
 exact tail_any (ops:=[.ref s3.heap.objs.size,v]) ht hT hg (by with_unfolding_all rfl)
def zdr (xs : List V) (lo hi : Option Int) : List V:=(xs.drop (HT.sIx xs.length 0 lo)).take (HT.sIx xs.length xs.length hi - HT.sIx xs.length 0 lo)
theorem zfh (xs : List V) (lo hi : Option Int) : (zdr xs lo hi).length ≤ xs.length:=by
 unfold zdr
 rw [List.length_take,List.length_drop]
 omega
def zlL (K : PySem.W.Frag) : R2:=fun x y H Q => ∃ a b xs ys,x = .ref a ∧ y = .ref b ∧ SqT K H a xs ∧ SqT K H b ys ∧ xs ≠ [] ∧ xs.length + ys.length ≤ sizeLine ∧
 (ys = [] → Q (.ref a) H) ∧ (ys ≠ [] → ∀ p,H p = none → Q (.ref p) (upd H p (.tup (xs ++ ys))))
theorem zA.nil_iff {xs : List V} {us : List Value} (r : zA xs us) : us = [] ↔ xs = []:=by
 cases r with
 | nil => simp
 | cons _ _ => simp
theorem zjH : OpR X (binaryOp .Add) (zlL X.K):=by
 intro pins s σ H x y v u Q I rx ry h
 obtain ⟨a,b,xs,ys,rfl,rfl,ha,hb,hx,hz,q1,q2⟩:=h
 cases rx
 cases ry
 obtain ⟨its,r1,p1,_⟩:=I.tuple ha
 obtain ⟨its2,r2,p2,_⟩:=I.tuple hb
 refine HT.cat_tup p1 p2 (fun z => hx (r1.nil_iff.mp z)) (fun z => ⟨.ref a,H,I,rfl,q1 (r2.nil_iff.mp z)⟩) (fun z => ?_) (by rw [← r1.length,← r2.length]; exact hz)
 refine ⟨.ref s.heap.objs.size,_,I.laid (t':=s.toks) (o:=.tup (xs ++ ys)) (fun b ob q => Heap.get?_push_of_some _ q) (Nat.le_refl _) ?_,rfl,q2 (fun w => z (r2.nil_iff.mpr w)) _ (I.hok.fresh (Nat.le_refl _))⟩
 exact ⟨by rw [List.length_append]; exact hz,_,r1.append r2,IsTup.new _ _⟩
end
end L2
namespace L2
open PySem PySem.Spec PyProof.Rows
def ixN (n : Nat) (i : Int) : Option Nat:=if 0 ≤ i then (if i < n then some i.toNat else none) else if -(n : Int) ≤ i then some (i + n).toNat else none
def atI {α : Type} (xs : List α) (i : Int) : Option α:=(ixN xs.length i).bind fun j => xs[j]?
theorem zgL {n : Nat} {i : Int} {j : Nat} (h : ixN n i = some j) : seqIndex? i n = some j ∧ j < n ∧ -(n : Int) ≤ i ∧ i < n:=by
 unfold ixN at h
 by_cases h0 : 0 ≤ i
 ·rw [if_pos h0] at h
  by_cases h1 : i < n
  ·rw [if_pos h1] at h
   have e : i.toNat = j:=Option.some.inj h
   exact ⟨by rw [seqIndex_of h0 h1,e],by omega,by omega,h1⟩
  ·rw [if_neg h1] at h; cases h
 ·rw [if_neg h0] at h
  by_cases h1 : -(n : Int) ≤ i
  ·rw [if_pos h1] at h
   have e : (i + n).toNat = j:=Option.some.inj h
   exact ⟨by rw [seqIndex_neg (by omega) h1,e],by omega,h1,by omega⟩
  ·rw [if_neg h1] at h; cases h
theorem zgM {α : Type} {xs : List α} {i : Int} {v : α} (h : atI xs i = some v) : ∃ j,seqIndex? i xs.length = some j ∧ xs[j]? = some v ∧ j < xs.length ∧ -(xs.length : Int) ≤ i ∧ i < xs.length:=by
 unfold atI at h
 cases e : ixN xs.length i with
 | none => rw [e] at h; cases h
 | some j =>
  rw [e] at h
  obtain ⟨h1,h2,h3,h4⟩:=zgL e
  exact ⟨j,h1,h,h2,h3,h4⟩
theorem zaD {α : Type} {xs : List α} {j : Nat} {v : α} (h : xs[j]? = some v) : atI xs (j : Int) = some v:=by
 have hj : j < xs.length:=(List.getElem?_eq_some_iff.mp h).1
 have e : ixN xs.length (j : Int) = some j:=by
  unfold ixN
  rw [if_pos (by omega),if_pos (by omega)]; simp
 unfold atI; rw [e]; exact h
def zjI (b : Expr) : Prop:=∀ o i,subscripted b false o i = operate [o,i] (getItem o i)
def IxR (X : Cx) (r : R2) : Prop :=
 ∀ (value slice : Expr) (pins : List (Addr × Obj)) (s : Shared) (σ : St) (H : Hp) (x y : V) (v u : Value) (Q : VK),Inv X pins σ H s → RelV x v → RelV y u → r x y H Q →
  subscripted slice false v u = operate [v,u] (getItem v u) → wpAny (model X.prog X.w) X.A (subscriptTail value slice v u) (EP X pins σ Q) X.xe s
def MtR (X : Cx) (id : String) (r : V → List V → Hp → VK → Prop) : Prop :=
 ∀ (pins : List (Addr × Obj)) (s : Shared) (σ : St) (H : Hp) (x : V) (xs : List V) (v : Value) (us : List Value) (Q : VK),Inv X pins σ H s → RelV x v → zA xs us → r x xs H Q →
  wpAny (model X.prog X.w) X.A (call (.builtin id) (v :: us)) (EP X pins σ Q) X.xe s
section
variable {X : Cx} {a b : Expr} {ta tb : TE} {pos : Pos}
theorem zE {r : R2} (hr : IxR X r) (ha : PE X a ta) (hb : PE X b tb) (hs : zjI b) : PE X (.Subscript a b pos) (tOp r ta tb):=by
 intro pins s σ H Q I h
 exact Subscript_ (zlG ha hb I h fun v u s2 x y H2 I2 rx ry q => hr a b pins s2 σ H2 x y v u Q I2 rx ry q (hs _ _))
def zlM (K : PySem.W.Frag) : R2:=fun x y H Q => ∃ p xs i v,x = .ref p ∧ y = .int i ∧ SqL K H p xs ∧ atI xs i = some v ∧ Q v H
def zlN (K : PySem.W.Frag) : R2:=fun x y H Q => ∃ p xs i v,x = .ref p ∧ y = .int i ∧ SqT K H p xs ∧ atI xs i = some v ∧ Q v H
theorem zI : IxR X (zlM X.K):=by
 intro value slice pins s σ H x y v u Q I rx ry h hs
 obtain ⟨p,xs,i,z,rfl,rfl,hq,he,q⟩:=h
 cases rx
 obtain ⟨t,rfl⟩:=ry
 obtain ⟨its,r,pl,hz⟩:=I.list hq
 obtain ⟨j,h1,h2,h3,h4,h5⟩:=zgM he
 obtain ⟨w,ew,rw'⟩:=r.get h2
 have hl:=r.length
 have hn:=zeE
 have fin : EP X pins σ Q w s:=⟨z,H,I,rw',q⟩
 by_cases h0 : 0 ≤ i
 ·have hj : i.toNat = j:=by
   rw [seqIndex_of h0 h5] at h1
   exact Option.some.inj h1
  exact item_listR pl.isList h0 (by omega) (by rw [hj]; simpa using ew) fin hs
 ·have hj : (i + (its.toArray.size : Int)).toNat = j:=by
   rw [seqIndex_neg (by omega) h4] at h1
   rw [List.size_toArray,← hl]
   exact Option.some.inj h1
  exact subscriptTail_builtinR (x:=w) pl.isList.typeIs slot_list_getitem.lookup
   (wpAny_getItem_list_neg (Q:=fun r s' => r = w ∧ EP X pins σ Q r s') pl.isList (by omega) (by rw [List.size_toArray] <;> omega) (by omega) (by rw [hj]; simpa using ew) ⟨rfl,fin⟩) hs
theorem za6 : IxR X (zlN X.K):=by
 intro value slice pins s σ H x y v u Q I rx ry h hs
 obtain ⟨p,xs,i,z,rfl,rfl,hq,he,q⟩:=h
 cases rx
 obtain ⟨t,rfl⟩:=ry
 obtain ⟨its,r,pl,hz⟩:=I.tuple hq
 obtain ⟨j,h1,h2,h3,h4,h5⟩:=zgM he
 obtain ⟨w,ew,rw'⟩:=r.get h2
 have hl:=r.length
 have hn:=zeE
 have fin : EP X pins σ Q w s:=⟨z,H,I,rw',q⟩
 exact subscriptTail_builtinR (x:=w) pl.typeIs slot_tuple_getitem.lookup
  (getItem_tuple (j:=j) (Q:=fun r s' => r = w ∧ EP X pins σ Q r s') pl (by omega) (by omega) (by rw [List.size_toArray,← hl]; exact h1) (by simpa using ew) ⟨rfl,fin⟩) hs
theorem zgg (its : List Value) (n j : Nat) (u : Value) : Obj.mapSeq (·.setIfInBounds j u) { cls:=.type "list",data:=.seq its.toArray n } = { cls:=.type "list",data:=.seq (its.set j u).toArray n }:=by
 simp [Obj.mapSeq]
theorem Inv.lst {pins : List (Addr × Obj)} {σ : St} {H : Hp} {s : Shared} {p : Addr} {xs : List V} (I : Inv X pins σ H s) (h : H p = some (.lst xs)) :
  ∃ (its : List Value) (n : Nat),zA xs its ∧ s.heap.get? p = some { cls:=.type "list",data:=.seq its.toArray n } ∧ xs.length ≤ sizeLine:=by
 obtain ⟨z,its,n,r,e⟩:=I.hok p _ h
 exact ⟨its,n,r,e,z⟩
theorem Inv.lstUpd {pins : List (Addr × Obj)} {σ : St} {H : Hp} {s : Shared} {p : Addr} {xs ys : List V} {its its' : List Value} {n n' : Nat} {f : Obj → Obj} (I : Inv X pins σ H s) (h : H p = some (.lst xs))
  (ho : s.heap.get? p = some { cls:=.type "list",data:=.seq its.toArray n }) (hf : f { cls:=.type "list",data:=.seq its.toArray n } = { cls:=.type "list",data:=.seq its'.toArray n' }) (r : zA ys its') (hz : ys.length ≤ sizeLine) (t : Nat) :
  Inv X pins σ (upd H p (.lst ys)) { s with heap:=s.heap.update p f,toks:=t }:=by
 have e : (s.heap.update p f).get? p = some { cls:=.type "list",data:=.seq its'.toArray n' }:=by
  rw [Heap.get?_update_self f ho (by rw [hf] <;> rfl),hf]
 refine I.write (x:=p) (e:=p) (by rw [h]; trivial) (.inl rfl) (fun b u hb q => (Heap.get?_update_other _ _ (Ne.symm hb)).trans q) ⟨_,e⟩ ?_
 exact ⟨hz,its',n',r,e⟩
def zlO : V → V → V → Hp → (Hp → Prop) → Prop:=fun o i v H Q => ∃ p xs k j,o = .ref p ∧ i = .int k ∧ H p = some (.lst xs) ∧ ixN xs.length k = some j ∧ Q (upd H p (.lst (xs.set j v)))
theorem set_list : zlC X zlO:=by
 intro pins s σ H o i v ov iv u Q I ro ri rv h
 obtain ⟨p,xs,k,j,rfl,rfl,hp,hj,q⟩:=h
 cases ro
 obtain ⟨t,rfl⟩:=ri
 obtain ⟨its,n,r,ho,hz⟩:=I.lst hp
 obtain ⟨h1,h2,h3,h4⟩:=zgL hj
 have hl:=r.length
 have hn:=zeE
 have I' : Inv X pins σ (upd H p (.lst (xs.set j v))) { s with heap:=s.heap.update p (Obj.mapSeq (·.setIfInBounds j u)) } :=
  I.lstUpd hp ho (zgg its n j u) (r.set rv j) (by rw [List.length_set]; exact hz) s.toks
 by_cases h0 : 0 ≤ k
 ·have hk : k.toNat = j:=by
   rw [seqIndex_of h0 h4] at h1
   exact Option.some.inj h1
  exact PySem.W.ki_setAt ho h0 (by omega) (by rw [List.size_toArray,← hl]; exact h4) (by rw [hk]; exact ⟨_,I',q⟩)
 ·have hk : (k + (its.toArray.size : Int)).toNat = j:=by
   rw [seqIndex_neg (by omega) h3] at h1
   rw [List.size_toArray,← hl]
   exact Option.some.inj h1
  exact PySem.W.ki_setBack ho (by omega) (by rw [List.size_toArray,← hl]; exact h3) (by omega) (by rw [hk]; exact ⟨_,I',q⟩)
theorem zeF (lo hi : Option Int) (n : Nat) : (sliceBounds lo hi none n).1 = ((HT.sIx n 0 lo : Nat) : Int) ∧ (sliceBounds lo hi none n).2.1 = ((HT.sIx n n hi : Nat) : Int) ∧ (sliceBounds lo hi none n).2.2 = 1:=by
 refine ⟨?_,?_,rfl⟩
 ·cases lo with
  | none => simp [sliceBounds,HT.sIx]
  | some i =>
   simp only [sliceBounds,HT.sIx,Option.getD_none,show (1 : Int) > 0 by decide,if_true]
   by_cases h : i < 0
   ·simp only [h,if_true] <;> omega
   ·simp only [h,if_false] <;> omega
 ·cases hi with
  | none => simp [sliceBounds,HT.sIx]
  | some i =>
   simp only [sliceBounds,HT.sIx,Option.getD_none,show (1 : Int) > 0 by decide,if_true]
   by_cases h : i < 0
   ·simp only [h,if_true] <;> omega
   ·simp only [h,if_false] <;> omega
theorem zdV (its : List Value) (lo hi : Option Int) : slicePick its.toArray lo hi none = ((its.drop (HT.sIx its.length 0 lo)).take (HT.sIx its.length its.length hi - HT.sIx its.length 0 lo)).toArray:=by
 obtain ⟨h1,h2,h3⟩:=zeF lo hi its.toArray.size
 unfold slicePick
 rw [h1,h2,h3]
 simp only [sliceRange_one,pick_run,List.size_toArray] <;> rfl
def zlP (K : PySem.W.Frag) : V → Option Int → Option Int → Hp → VK → Prop:=fun x lo hi H Q => ∃ a xs,x = .ref a ∧ SqL K H a xs ∧ ∀ p,H p = none → Q (.ref p) (upd H p (.lst (zdr xs lo hi)))
theorem zdb : SlR X (zlP X.K):=by
 intro pins s σ H x v vl vu lo hi sl Q I rx hs pl pu h
 obtain ⟨a,xs,rfl,hx,q⟩:=h
 cases rx
 obtain ⟨its,r,ht,hz⟩:=I.list hx
 have hlen:=r.length
 refine ⟨"list",_,slot_list_getitem.lookup,ht.isList.typeIs,?_⟩
 refine wpAny_getItem_list_slice ht.isList hs pl pu .none (by simp) ?_ (by rw [List.size_toArray] <;> omega)
 rw [zdV,← hlen]
 refine ⟨.ref s.heap.objs.size,_,I.laid (t':=s.toks) (o:=.lst (zdr xs lo hi)) (fun b ob q => Heap.get?_push_of_some _ q) (Nat.le_refl _) ?_,rfl,q _ (I.hok.fresh (Nat.le_refl _))⟩
 exact ⟨Nat.le_trans (zfh xs lo hi) hz,_,0,(r.drop (HT.sIx xs.length 0 lo)).take (HT.sIx xs.length xs.length hi - HT.sIx xs.length 0 lo),Heap.get?_push_size _ rfl⟩
def zed : V → Bool
 | .non => true
 | .bl _ => true
 | .int _ => true
 | .str _ => true
 | _ => false
def eqV : V → V → Bool
 | .non,.non => true
 | .bl a,.bl b => a == b
 | .bl a,.int b => (if a then 1 else 0) == b
 | .int a,.bl b => a == (if b then 1 else 0)
 | .int a,.int b => a == b
 | .str a,.str b => a == b
 | _,_ => false
theorem zkT {A : Around} {s : Shared} {y x : V} {u v : Value} (ry : RelV y u) (rx : RelV x v) (fy : zed y = true) (fx : zed x = true) : SeqAt.EqAt A s u v (eqV y x):=by
 cases y with
 | non =>
  cases ry
  cases x with
  | non => cases rx; exact SeqAt.EqAt.same _
  | bl b => cases rx; exact SeqAt.EqAt.none_bool b
  | int b => obtain ⟨t,rfl⟩:=rx; exact SeqAt.EqAt.none_int b t
  | str b => obtain ⟨t,rfl⟩:=rx; exact SeqAt.EqAt.none_str b t
  | _ => exact absurd (show false = true from fx) Bool.false_ne_true
 | bl a =>
  cases ry
  cases x with
  | non => cases rx; exact SeqAt.EqAt.bool_none a
  | bl b => cases rx; exact SeqAt.EqAt.bool_bool a b
  | int b => obtain ⟨t,rfl⟩:=rx; exact SeqAt.EqAt.bool_int a b t
  | str b => obtain ⟨t,rfl⟩:=rx; exact SeqAt.EqAt.bool_str a b t
  | _ => exact absurd (show false = true from fx) Bool.false_ne_true
 | int a =>
  obtain ⟨t',rfl⟩:=ry
  cases x with
  | non => cases rx; exact SeqAt.EqAt.int_none a t'
  | bl b => cases rx; exact SeqAt.EqAt.int_bool a t' b
  | int b => obtain ⟨t,rfl⟩:=rx; exact SeqAt.EqAt.int_int a t' b t
  | str b => obtain ⟨t,rfl⟩:=rx; exact SeqAt.EqAt.int_str a t' b t
  | _ => exact absurd (show false = true from fx) Bool.false_ne_true
 | str a =>
  obtain ⟨t',rfl⟩:=ry
  cases x with
  | non => cases rx; exact SeqAt.EqAt.str_none a t'
  | bl b => cases rx; exact SeqAt.EqAt.str_bool a t' b
  | int b => obtain ⟨t,rfl⟩:=rx; exact SeqAt.EqAt.str_int a t' b t
  | str b => obtain ⟨t,rfl⟩:=rx; exact SeqAt.EqAt.str_str a t' b t
  | _ => exact absurd (show false = true from fx) Bool.false_ne_true
 | _ => exact absurd (show false = true from fy) Bool.false_ne_true
theorem zB : zbh X (.builtin "len") (fun xs H Q => ∃ p ys,xs = [.ref p] ∧ (SqL X.K H p ys ∨ SqT X.K H p ys) ∧ Q (.int ys.length) H):=by
 intro pins s σ H xs us Q I r h
 obtain ⟨p,ys,rfl,hq,q⟩:=h
 obtain ⟨u,rfl,rx⟩:=vals1 r
 cases rx
 have hn:=zeE
 rcases hq with hq | hq
 ·obtain ⟨its,r',pl,hz⟩:=I.list hq
  have hlen:=r'.length
  exact Calls.call_len_list pl.isList (by simp only [List.size_toArray] <;> omega) ⟨.int ys.length,H,I.tok _,⟨s.toks + 1,by rw [List.size_toArray,hlen]⟩,q⟩
 ·obtain ⟨its,r',pl,hz⟩:=I.tuple hq
  have hlen:=r'.length
  exact len_tuple pl (by simp only [List.size_toArray] <;> omega) ⟨.int ys.length,H,I.tok _,⟨s.toks + 1,by rw [List.size_toArray,hlen]⟩,q⟩
theorem zeG : zbh X (.type "list") (fun xs H Q => ∃ p ys,xs = [.ref p] ∧ (SqL X.K H p ys ∨ SqT X.K H p ys) ∧ ∀ l,H l = none → Q (.ref l) (upd H l (.lst ys))):=by
 intro pins s σ H xs us Q I r h
 obtain ⟨p,ys,rfl,hq,q⟩:=h
 obtain ⟨u,rfl,rx⟩:=vals1 r
 cases rx
 have fin : ∀ (its : List Value),zA ys its → ys.length ≤ sizeLine → ∀ (h' : Heap) (c' : Nat),(∀ b o',s.heap.get? b = some o' → h'.get? b = some o') →
   h'.get? s.heap.objs.size = some { cls:=.type "list",dict:=none,data:=.seq its.toArray c',slots:=#[] } → EP X pins σ Q (.ref s.heap.objs.size) { s with heap:=h' }:=fun its r' hz h' c' kp e =>
  ⟨.ref s.heap.objs.size,_,I.laid (t':=s.toks) kp (Nat.le_refl _) (show zR X.prog X.w _ h' _ (.lst ys) from ⟨hz,its,c',r',e⟩),rfl,q _ (I.hok.fresh (Nat.le_refl _))⟩
 rcases hq with hq | hq
 ·obtain ⟨its,r',pl,hz⟩:=I.list hq
  have hlen:=r'.length
  obtain ⟨o,ho,hc,n,hd⟩:=pl.isList
  exact call_list_seq p (.inl rfl) ho hc hd (fun h' c' kp e => fin its r' hz h' c' kp e) (by simp only [List.size_toArray] <;> omega)
 ·obtain ⟨its,r',pl,hz⟩:=I.tuple hq
  have hlen:=r'.length
  obtain ⟨o,ho,hc,n,hd⟩:=pl
  exact call_list_seq p (.inr rfl) ho hc hd (fun h' c' kp e => fin its r' hz h' c' kp e) (by simp only [List.size_toArray] <;> omega)
theorem zaZ : zbh X (.type "tuple") (fun xs H Q => ∃ p ys,xs = [.ref p] ∧ ((SqL X.K H p ys ∧ ∀ l,H l = none → Q (.ref l) (upd H l (.tup ys))) ∨ (SqT X.K H p ys ∧ Q (.ref p) H))):=by
 intro pins s σ H xs us Q I r h
 obtain ⟨p,ys,rfl,h⟩:=h
 obtain ⟨u,rfl,rx⟩:=vals1 r
 cases rx
 rcases h with ⟨hq,q⟩ | ⟨hq,q⟩
 ·obtain ⟨its,r',pl,hz⟩:=I.list hq
  have hlen:=r'.length
  refine call_tuple_list pl.isList (fun h' kp => ?_) (by simp only [List.size_toArray] <;> omega)
  have I1 : Inv X pins σ H { s with heap:=h' }:=I.kept (t':=s.toks) kp
  have I2 : Inv X pins σ (upd H h'.objs.size (.tup ys)) { s with heap:=h'.push { cls:=.type "tuple",data:=.seq its.toArray } } :=
   I1.laid (t':=s.toks) (fun b o e => Heap.get?_push_of_some _ e) (Nat.le_refl _) (show zR X.prog X.w _ _ _ (.tup ys) from ⟨hz,its,r',IsTup.new _ _⟩)
  exact ⟨.ref h'.objs.size,_,I2,rfl,q _ (I1.hok.fresh (Nat.le_refl _))⟩
 ·obtain ⟨its,r',pl,hz⟩:=I.tuple hq
  exact call_tuple_same pl ⟨.ref p,H,I,rfl,q⟩
def tyV (K : PySem.W.Frag) (T : String) (x : V) (H : Hp) : Prop:=match x with
 | .str _ => T = "str"
 | .int _ => T = "int"
 | .ref p => (T = "list" ∧ ∃ xs,SqL K H p xs) ∨ (T = "tuple" ∧ ∃ o,K.lookup p = some o ∧ o.cls = .type "tuple" ∧ o.dict = none) ∨
   (T = "dict" ∧ ((∃ kvs,H p = some (.dK kvs)) ∨ ∃ kvs,H p = some (.dT kvs))) ∨ (T = "set" ∧ ∃ S n,H p = some (.set S n))
 | _ => False
theorem zkU {pins : List (Addr × Obj)} {σ : St} {H : Hp} {s : Shared} {T : String} {x : V} {v : Value} (I : Inv X pins σ H s) (r : RelV x v) (ty : tyV X.K T x H) :
  s.TypeIs v T ∧ ∀ a,v = .ref a → ∃ ob,s.heap.get? a = some ob ∧ ob.dict = none:=by
 cases x with
 | str z =>
  obtain ⟨t,rfl⟩:=r
  cases (show T = "str" from ty)
  exact ⟨typeIs_str s z t,fun _ e => nomatch e⟩
 | int i =>
  obtain ⟨t,rfl⟩:=r
  cases (show T = "int" from ty)
  exact ⟨typeIs_int s i t,fun _ e => nomatch e⟩
 | ref p =>
  cases r
  rcases ty with ⟨rfl,xs,hq⟩ | ⟨rfl,o,hk,hc,hd⟩ | ⟨rfl,hk⟩ | ⟨rfl,S,n,hk⟩
  ·obtain ⟨its,_,pl,_⟩:=I.list hq
   refine ⟨pl.isList.typeIs,fun a e => ?_⟩
   cases e
   obtain ⟨o,n,e,c,hd,_⟩:=pl
   exact ⟨o,e,hd⟩
  ·refine ⟨⟨o,I.kIn p o hk,hc⟩,fun a e => ?_⟩
   cases e
   exact ⟨o,I.kIn _ o hk,hd⟩
  ·have z : ∃ o,s.heap.get? p = some o ∧ o.ExactDict:=by
    rcases hk with ⟨kvs,hk⟩ | ⟨kvs,hk⟩
    ·obtain ⟨_,_,_,_,o,_,_,e,ex,_⟩:=I.hok p _ hk
     exact ⟨o,e,ex⟩
    ·obtain ⟨_,_,_,_,o,_,_,e,ex,_⟩:=I.hok p _ hk
     exact ⟨o,e,ex⟩
   obtain ⟨o,e,ex⟩:=z
   refine ⟨⟨o,e,ex.1⟩,fun a e2 => ?_⟩
   cases e2
   exact ⟨o,e,ex.2.1⟩
  ·obtain ⟨o,_,_,_,e,ex,_⟩:=I.hok p _ hk
   refine ⟨⟨o,e,ex.1⟩,fun a e2 => ?_⟩
   cases e2
   exact ⟨o,e,ex.2.1⟩
 | _ => exact False.elim ty
def tBM (K : PySem.W.Frag) (T : String) (r : V → List V → Hp → VK → Prop) (to : TE) (t : TA) : TE:=fun σ H Q => to σ H fun x H1 => tyV K T x H1 ∧ t σ H1 fun xs H2 => r x xs H2 Q
variable {o e : Expr} {es : List Expr} {to : TE} {t : TA} {name : Str} {apos cpos : Pos} {T id : String} {r : V → List V → Hp → VK → Prop}
theorem zcu (pa : PlainAttrs T) (slot : Slot T name id) (hty : typeOf (.builtin id) = pure (.type "method_descriptor")) (hm : MtR X id r) (ho : PE X o to) (ha : PA X (e :: es) t)
  (hbase : attributeBase o name X.env (eval o X.env) = eval o X.env:=by rfl)
  (hfew : ((backTo cpos (starEach (e :: es) X.env)).all (fun x => !x.1) && (backToKw cpos (keywordEach [] X.env)).all (fun x => x.1.isSome)
   && decide ((e :: es).length + ([] : List Keyword).length + (if ([] : List Keyword).isEmpty then 0 else 1) < 30)) = true:=by rfl)
  (hline : (apos.endLine == cpos.line) = true:=by rfl) (hs : starEach (e :: es) X.env = (false,eval e X.env) :: starEach es X.env:=by rfl) (hplain : (backTo cpos (starEach es X.env)).any (·.1) = false:=by rfl) :
  PE X (.Call (.Attribute o name apos) (e :: es) [] cpos) (tBM X.K T r to t):=by
 intro pins s σ H Q I h
 refine wpAny_Call_method_late hbase hfew hline rfl (thn (ho pins s σ H _ I h) fun v s1 ⟨x,H1,I1,r1,ty,q1⟩ => ?_)
 obtain ⟨h1,h2⟩:=zkU I1 r1 ty
 refine ⟨T,id,pa,slot,hty,h1,h2,?_⟩
 have hA:=ha cpos pins s1 σ H1 _ I1 q1
 rw [hs] at hA ⊢
 refine Calls.callWith_builtin (by show (false || (backTo cpos (starEach es X.env)).any (·.1)) = false; rw [hplain] <;> rfl) (Calls.evalArgs_plain ?_)
 exact thn hA fun us s2 ⟨vs,H2,I2,r2,q2⟩ => hm pins s2 σ H2 x vs v us Q I2 r1 r2 q2
end
end L2
namespace L2
open PySem PySem.Spec PyProof.Rows
def MtM (X : Cx) (id : String) (r : V → List V → Hp → VK → Prop) : Prop :=
 ∀ (pins : List (Addr × Obj)) (s : Shared) (σ : St) (H : Hp) (x : V) (xs : List V) (v : Value) (us : List Value) (Q : VK),Inv X pins σ H s → RelV x v → zA xs us → r x xs H Q →
  wpAny (model X.prog X.w) X.A (call (.builtin id) (v :: us)) (EP X pins σ Q) X.xe s
theorem zA.one : ∀ {x : V} {us : List Value},zA [x] us → ∃ u,us = [u] ∧ RelV x u
 | _,_,.cons r .nil => ⟨_,rfl,r⟩
theorem zA.eraseIdx : ∀ {xs : List V} {us : List Value} (i : Nat),zA xs us → zA (xs.eraseIdx i) (us.eraseIdx i)
 | _,_,_,.nil => .nil
 | _,_,0,.cons _ t => t
 | _,_,i + 1,.cons r t => .cons r (zA.eraseIdx i t)
theorem zA.rep {xs : List V} {us : List Value} (h : zA xs us) : ∀ k : Nat,zA (List.replicate k xs).flatten (List.replicate k us).flatten
 | 0 => .nil
 | k + 1 => by
  rw [List.replicate_succ,List.replicate_succ,List.flatten_cons,List.flatten_cons]
  exact zA.append h (zA.rep h k)
theorem zee {α : Type} : ∀ (l : List α) (i : Nat),(l.eraseIdx i).length ≤ l.length
 | [],_ => Nat.le_refl _
 | _ :: _,0 => Nat.le_succ _
 | _ :: r,i + 1 => Nat.succ_le_succ (zee r i)
theorem foldl_rep (its : List Value) : ∀ (k : Nat) (acc : List Value),
  List.foldl (fun x1 x2 => x1 ++ x2) acc.toArray (List.replicate k its.toArray) = (acc ++ (List.replicate k its).flatten).toArray
 | 0,acc => by simp
 | k + 1,acc => by
  have e : acc.toArray ++ its.toArray = (acc ++ its).toArray:=by simp
  have e2 : (acc ++ its) ++ (List.replicate k its).flatten = acc ++ (List.replicate (k + 1) its).flatten:=by
   rw [List.replicate_succ,List.flatten_cons,List.append_assoc]
  rw [← e2,← foldl_rep its k (acc ++ its),← e,List.replicate_succ,List.foldl_cons]
section
variable {X : Cx} {pins : List (Addr × Obj)} {σ : St} {H : Hp} {s : Shared} {l b : Addr} {xs ys zs : List V}
theorem Inv.lset {its its' : List Value} {n : Nat} {f : Array Value → Array Value} {t' : Nat} (I : Inv X pins σ H s) (hH : H l = some (.lst xs))
  (e : s.heap.get? l = some { cls:=.type "list",data:=.seq its.toArray n }) (hf : f its.toArray = its'.toArray) (hv : zA ys its') (hz : ys.length ≤ sizeLine) :
  Inv X pins σ (upd H l (.lst ys)) { s with heap:=s.heap.update l (Obj.mapSeq f),toks:=t' }:=by
 have q:=PySem.IsL.update e f
 rw [hf] at q
 refine I.write (x:=l) (e:=l) (by rw [hH]; exact trivial) (.inl rfl) (fun b' u hb hu => (Heap.get?_update_other s.heap (Obj.mapSeq f) (Ne.symm hb)).trans hu) ⟨_,q⟩ ?_
 exact ⟨hz,its',_,hv,q⟩
theorem Inv.lnew {its : List Value} {t' : Nat} (I : Inv X pins σ H s) (hv : zA ys its) (hz : ys.length ≤ sizeLine) :
  Inv X pins σ (upd H s.heap.objs.size (.lst ys)) { s with heap:=s.heap.push { cls:=.type "list",data:=.seq its.toArray },toks:=t' } :=
 I.laid (fun _ _ q => Heap.get?_push_of_some _ q) (Nat.le_refl _) ⟨hz,its,0,hv,Heap.get?_push_size _ rfl⟩
theorem Inv.fresh (I : Inv X pins σ H s) : H s.heap.objs.size = none:=I.hok.fresh (Nat.le_refl _)
theorem Inv.lstM (I : Inv X pins σ H s) (hH : H l = some (.lst xs)) : xs.length ≤ sizeLine ∧ ∃ (its : List Value) (n : Nat),zA xs its ∧ xs.length = its.length ∧ s.heap.get? l = some { cls:=.type "list",data:=.seq its.toArray n }:=by
 obtain ⟨z,its,n,r,e⟩:=I.hok l _ hH
 exact ⟨z,its,n,r,r.length,e⟩
theorem zfi {n : Nat} (h : n ≤ sizeLine) : Builtin.List.listTooLong n = false:=by
 unfold Builtin.List.listTooLong
 exact decide_eq_false (by omega)
end
section
variable {X : Cx}
def zjJ : V → List V → Hp → VK → Prop:=fun x vs H Q => ∃ l xs y,x = .ref l ∧ vs = [y] ∧ H l = some (.lst xs) ∧ xs.length < sizeLine ∧ Q .non (upd H l (.lst (xs ++ [y])))
theorem zb0 : MtM X "list.append" zjJ:=by
 intro pins s σ H x vs v us Q I rx rv h
 obtain ⟨l,xs,y,rfl,rfl,hH,hz,q⟩:=h
 cases rx
 obtain ⟨u,rfl,ru⟩:=rv.one
 obtain ⟨z,its,n,r,hl,e⟩:=I.lstM hH
 refine call_meets F.slot_list_append ⟨_,e,rfl⟩ F.entry_list_append (F.args_list_append_2 _ _) (PySem.list_append l its.toArray n u (by rw [List.size_toArray]; omega)) ⟨e,?_⟩
 refine ⟨.non,_,I.lset (its':=its ++ [u]) hH e (by simp) (r.append (.cons ru .nil)) ?_,rfl,q⟩
 rw [List.length_append,List.length_singleton]
 omega
def zjK : V → List V → Hp → VK → Prop:=fun x vs H Q => ∃ l b xs zs,x = .ref l ∧ vs = [.ref b] ∧ H l = some (.lst xs) ∧ H b = some (.lst zs) ∧ xs.length + zs.length ≤ sizeLine ∧ Q .non (upd H l (.lst (xs ++ zs)))
theorem zef : MtM X "list.extend" zjK:=by
 intro pins s σ H x vs v us Q I rx rv h
 obtain ⟨l,b,xs,zs,rfl,rfl,hH,hB,hz,q⟩:=h
 cases rx
 obtain ⟨u,rfl,ru⟩:=rv.one
 cases ru
 obtain ⟨z,its,n,r,hl,e⟩:=I.lstM hH
 obtain ⟨z2,its2,n2,r2,hl2,e2⟩:=I.lstM hB
 have hsz : its.toArray.size + its2.toArray.size ≤ sizeLine:=by rw [List.size_toArray,List.size_toArray]; omega
 have hlong : ¬ (!its.toArray.isEmpty && Builtin.List.listTooLong (its.toArray.size + its2.toArray.size)) = true:=by
  rw [zfi hsz,Bool.and_false]
  exact Bool.false_ne_true
 refine call_meets F.slot_list_extend ⟨_,e,rfl⟩ F.entry_list_extend (F.args_list_extend_2 _ _)
  (AutoSeq1.list_extend_list_list_0 l its.toArray n b its2.toArray n2 hlong (by rw [List.size_toArray]; omega) (by omega)) ⟨e,e2,?_⟩
 refine ⟨.non,_,I.lset (its':=its ++ its2) hH e (by simp) (r.append r2) ?_,rfl,q⟩
 rw [List.length_append]
 omega
def zkV : V → List V → Hp → VK → Prop:=fun x vs H Q => ∃ l xs i k y,x = .ref l ∧ vs = [.int i] ∧ H l = some (.lst xs) ∧ -(2 ^ 63) ≤ i ∧ i < 2 ^ 63 ∧ seqIndex? i xs.length = some k ∧ xs[k]? = some y ∧ Q y (upd H l (.lst (xs.eraseIdx k)))
theorem ziw : MtM X "list.pop" zkV:=by
 intro pins s σ H x vs v us Q I rx rv h
 obtain ⟨l,xs,i,k,y,rfl,rfl,hH,h1,h2,hk,hy,q⟩:=h
 cases rx
 obtain ⟨u,rfl,ru⟩:=rv.one
 obtain ⟨t,rfl⟩:=ru
 obtain ⟨z,its,n,r,hl,e⟩:=I.lstM hH
 obtain ⟨w,hw,rw'⟩:=r.get hy
 refine call_meets F.slot_list_pop ⟨_,e,rfl⟩ F.entry_list_pop (F.args_list_pop_2 _ _)
  (MeetsSeq.list_pop_at l its.toArray n i t k w (fitsIndex_both h1 h2) (by rw [List.size_toArray,← hl]; exact hk) (by rw [← Array.getElem?_toList]; exact hw) (by rw [List.size_toArray]; omega)) ⟨e,?_⟩
 refine ⟨y,_,I.lset (its':=its.eraseIdx k) hH e ?_ (r.eraseIdx k) ?_,rw',q⟩
 ·show its.toArray.eraseIdxIfInBounds k = (its.eraseIdx k).toArray
  rw [List.eraseIdxIfInBounds_toArray]
 ·have:=zee xs k
  omega
def zmg : R2:=fun x y H Q => ∃ l b xs zs,x = .ref l ∧ y = .ref b ∧ H l = some (.lst xs) ∧ H b = some (.lst zs) ∧ xs.length + zs.length ≤ sizeLine ∧ ∀ p,H p = none → Q (.ref p) (upd H p (.lst (xs ++ zs)))
theorem zbC : OpR X (binaryOp .Add) zmg:=by
 intro pins s σ H x y v u Q I rx ry h
 obtain ⟨l,b,xs,zs,rfl,rfl,hH,hB,hz,q⟩:=h
 cases rx
 cases ry
 obtain ⟨z,its,n,r,hl,e⟩:=I.lstM hH
 obtain ⟨z2,its2,n2,r2,hl2,e2⟩:=I.lstM hB
 refine PySem.P.add_list e e2 ?_ (by rw [List.size_toArray,List.size_toArray]; omega)
 have ea : its.toArray ++ its2.toArray = (its ++ its2).toArray:=by simp
 rw [ea]
 exact ⟨.ref _,_,I.lnew (t':=s.toks) (r.append r2) (by rw [List.length_append]; omega),rfl,q _ I.fresh⟩
def zmh : R2:=fun x y H Q => ∃ l k xs,x = .ref l ∧ y = .int k ∧ H l = some (.lst xs) ∧ -(2 ^ 63) ≤ k ∧ k < 2 ^ 63 ∧ xs.length * k.toNat ≤ sizeLine ∧
 ∀ p,H p = none → Q (.ref p) (upd H p (.lst (List.replicate k.toNat xs).flatten))
theorem len_rep {α : Type} (xs : List α) (k : Nat) : (List.replicate k xs).flatten.length = k * xs.length:=by
 induction k with
 | zero => simp
 | succ k ih => rw [List.replicate_succ,List.flatten_cons,List.length_append,ih,Nat.succ_mul,Nat.add_comm]
theorem zds : OpR X (binaryOp .Mult) zmh:=by
 intro pins s σ H x y v u Q I rx ry h
 obtain ⟨l,k,xs,rfl,rfl,hH,h1,h2,hz,q⟩:=h
 cases rx
 obtain ⟨t,rfl⟩:=ry
 obtain ⟨z,its,n,r,hl,e⟩:=I.lstM hH
 have hlen : its.toArray.size * k.toNat ≤ sizeLine:=by rw [List.size_toArray,← hl]; exact hz
 have hcap : ¬ its.toArray.size * k.toNat > (2 ^ 63 - 1) / 8:=by
  have : (sizeLine : Nat) ≤ (2 ^ 63 - 1) / 8:=by decide
  omega
 have hfit : ¬ (!Builtin.List.listFitsIndex k) = true:=by
  rw [fitsIndex_both h1 h2]
  exact Bool.false_ne_true
 have hlong : ¬ Builtin.List.listTooLong (its.toArray.size * k.toNat) = true:=by
  rw [zfi hlen]
  exact Bool.false_ne_true
 have hnew : List.foldl (fun x1 x2 => x1 ++ x2) #[] (List.replicate (if its.toArray.isEmpty = true then 0 else k.toNat) its.toArray) = (List.replicate k.toNat its).flatten.toArray:=by
  have f0 : ∀ m : Nat,List.foldl (fun x1 x2 => x1 ++ x2) #[] (List.replicate m its.toArray) = (List.replicate m its).flatten.toArray:=fun m => by
   have:=foldl_rep its m []
   rw [List.nil_append] at this
   exact this
  rw [f0]
  cases its with
  | nil => simp
  | cons a r' => rw [if_neg (by simp)]
 refine wpAny_binaryOp_repeat_ref (T:="list") (U:="int") (by decide) ⟨_,e,rfl⟩ (fun s' => typeIs_int s' k t) noFill_list_mul F.fills_int_mul F.slot_int_rmul repeat_list F.slot_int_index.lookup
  (call_meets F.slot_int_rmul (typeIs_int s k t) F.entry_int_rmul (F.args_int_rmul_2 _ _) (int___rmul___int_list k t l its.toArray n)
   ⟨e,rfl,⟨_,e,rfl⟩,call_meets F.slot_list_mul ⟨_,e,rfl⟩ F.entry_list_mul (F.args_list_mul_2 _ _) (AutoListH.list___mul___list_int_3 l its.toArray n k t hfit hcap hlong) ⟨e,?_⟩⟩)
 rw [hnew]
 exact ⟨.ref _,_,I.lnew (t':=s.toks) (r.rep k.toNat) (by rw [len_rep,Nat.mul_comm]; exact hz),rfl,q _ I.fresh⟩
end
section
variable {prog : Program} {w : World} {A : Around} {E : Value → Shared → Prop} {s : Shared}
end
section
variable {X : Cx}
end
end L2
namespace Att
open PySem PySem.W PySem.Calls PyProof.Rows
theorem zcY {P : Params} {h : Heap} : ∀ (ns : List Int) (vs : List Value),WellAll P h vs (ns.map WData.int) → IntsAre vs ns:=by
 intro ns
 induction ns with
 | nil =>
  intro vs w
  rw [List.map_nil] at w
  cases w
  exact .nil
 | cons n ns ih =>
  intro vs w
  rw [List.map_cons] at w
  cases w with
  | cons a b =>
   cases a
   exact .cons _ _ (ih _ b)
theorem zhs {l : OpenLaw} {n : Nat} (hn : l.most = some n) {P : Params} {h : Heap} {args : List WData} {vals : List Value}
  (hpre : l.row.toRowW.claim.pre args = true) (hwl : WellAll P h vals args) :
  ∃ a vs ns,vals = [Value.ref a] ∧ args = [WData.list (ns.map WData.int)] ∧ h.get? a = some { cls:=.type "list",data:=.seq vs.toArray } ∧ IntsAre vs ns ∧ ns.length ≤ n:=by
 have hsh : WShape.hasAll [] args [.list .int] = true:=(pre_splitW hpre).1
 have hc : l.pre.holds [] { args:=args } = true:=(pre_splitW hpre).2
 obtain ⟨d,r,rfl,h1,h2⟩:=hasAllW_cons hsh
 obtain rfl:=hasAllW_nil h2
 obtain ⟨xs,rfl,h3⟩:=hasW_list h1
 obtain ⟨ns,rfl⟩:=items_int h3
 have hlen : ns.length ≤ n:=by
  unfold OpenLaw.pre at hc
  have h4 : (WTm.not (.lt (.lit (.int (n : Int))) (.len (.arg 0)))).holds [] { args:=[.list (ns.map .int)] } = true:=by
   have h4:=(holds_andW hc).1
   rw [hn] at h4
   exact h4
  have h5:=condW_of h4 (w_not (w_lt w_lit (w_len_list (w_arg rfl))))
  rw [List.length_map] at h5
  refine Nat.le_of_not_lt fun q => ?_
  have q' : (n : Int) < ((ns.length : Nat) : Int):=by omega
  first
   | (rw [decide_eq_true q'] at h5; exact absurd h5 (by decide))
   | (simp at h5; omega)
 cases hwl with
 | cons w1 w2 =>
  cases w2
  cases w1 with
  | list ho hall => exact ⟨_,_,ns,rfl,rfl,ho,zcY ns _ hall,hlen⟩
theorem zht (l : OpenLaw) (args : List WData) : l.row.toRowW.claim.post args (.bool true) args = true :=
 postW_of (r:=l.row.toRowW) (X:=(true == true))
  (show WShape.has [] (.bool true) .bool = true by first | rfl | decide | simp [WShape.has,WShape.arms,WShape.armsAll])
  (show (WTm.eq .res (.lit (.bool true))).value [] { args:=args,res:=some (.bool true),after:=args } = some (.bool (true == true)) from w_eq_bool (w_res rfl) w_lit) rfl
theorem attach_call {l : OpenLaw} {n : Nat} {q : Program} {loose : List Str} {XP : (Str → Option Value) → Heap → Prop} {YP : World → Heap → Prop} {d : DefRec}
  (hn : l.most = some n) (hdf : d.params.defaults = [])
  (call : ∀ (w : World) (s₀ s₁ : Shared) (mg mb : Str → Option Value) (fa : Addr) (o : Obj) (pm cd doc : Value) (a : Addr) (vs : List Value) (ns : List Int),
   Ground q loose [] XP w s₀ mg mb s₁.heap → YP w s₁.heap →
   s₁.heap.get? fa = some o → o.data = .func (docDef d.name d.params d.body d.scope pm cd doc) → s₁.heap.CodeRec cd d.name → mg d.name = some (.ref fa) →
   s₁.heap.get? a = some { cls:=.type "list",data:=.seq vs.toArray } → IntsAre vs ns → ns.length ≤ n → s₁.gens = #[] →
   codeAny (model l.prog w) callerA (.call (.ref fa) ⟨[.ref a],[]⟩) (fun r s' => r = .ok (.ret (.bool true)) ∧ OldK s₁.heap s'.heap ∧ s'.os = s₁.os ∧ AllBare s'.gens) s₁) :
  WalkO q loose XP YP l.row.toRowW d [] (fun f vs => PySem.call f vs):=by
 intro w s₀ s₁ mg mb G Y fa o pm cd doc dV kV ho hd hcd hD hmg hg args vals as hpre hlay hrd hwl hlo
 obtain rfl : dV = .none:=Dflts.none hD hdf
 obtain rfl : kV = .none:=Dflts.noKw hD
 obtain ⟨a,vs,ns,rfl,rfl,hobj,hints,hlen⟩:=zhs hn hpre hwl
 refine enter_call (codeAny_mono (call w s₀ s₁ mg mb fa o pm cd doc a vs ns G Y ho (fd_plain hd) hcd hmg hobj hints hlen hg) fun r s' hq => ?_)
 obtain ⟨rfl,h2,h3,h4⟩:=hq
 exact ⟨.inl ⟨.bool true,.bool true,[],rfl,fun _ => rfl,.bool true,zht l _,fun _ => ⟨List.Pairwise.nil,fun _ hm => (nomatch hm)⟩⟩,h2,h3,h4⟩
section
variable {prog : Program} {w : World} {A : Around} {E : Value → Shared → Prop} {s : Shared} {K : Frag}
end
end Att
namespace L2
open PySem PySem.Spec PyProof.Rows
theorem zeg : ∀ {vs : List Value} {ns : List Int},IntsAre vs ns → zA (ns.map V.int) vs
 | _,_,.nil => .nil
 | _,_,.cons n t h => .cons ⟨t,rfl⟩ (zeg h)
def zkW (H : Hp) : Prop:=∀ b,H b = none ∨ ∃ o xs,H b = some (.frz o (.lst xs))
theorem zix {P : Program} {w : World} {K : PySem.W.Frag} {mg mb : Str → Option Value} {CX : CXT} {k : Nat} {fa a : Addr} {fd : FuncData} {x : Str} {sp : Sp} {s₁ : Shared} {vs : List Value} {ns : List Int}
  (KX : K.In s₁.heap) (hns : s₁.heap.Ns mainGlobals mg) (hb : s₁.heap.Ns builtinsNs mb) (hbb : ∀ x : Str,x ≠ "__name__" → mb x = bootBuiltins x) (hlim : s₁.heap.NoLimit) (hg : s₁.gens = #[])
  (ha : s₁.heap.get? a = some { cls:=.type "list",data:=.seq vs.toArray }) (hi : IntsAre vs ns) (hl : ns.length ≤ sizeLine) (hr : Room k callerA)
  (F : ∀ base : Heap,K.In base → base.Ns mainGlobals mg → FnOk P w K mg base CX k fa fd [x] sp) (hbind : ∀ (s : Shared) (u : Value),BindsTo s fd ⟨[u],[]⟩ [(x,u)])
  (hsp : ∀ H : Hp,zkW H → SqL K H a (ns.map V.int) → sp [.ref a] H (fun v _ => v = .bl true) fun _ _ _ => False)
  (hCX : ∀ H e s',CX [] H s₁ (fun _ _ _ => False) e s' → False) :
  codeAny (model P w) callerA (.call (.ref fa) ⟨[.ref a],[]⟩) (fun r s' => r = .ok (.ret (.bool true)) ∧ OldK s₁.heap s'.heap ∧ s'.os = s₁.os ∧ AllBare s'.gens) s₁:=by
 have rv:=zeg hi
 have lenV:=hi.length
 have core : ∀ H : Hp,zkW H → SqL K H a (ns.map V.int) → HOk P w H s₁.heap → (∀ b,H b ≠ none → b = a) → (H a ≠ none → K.lookup a = none) →
   codeAny (model P w) callerA (.call (.ref fa) ⟨[.ref a],[]⟩) (fun r s' => r = .ok (.ret (.bool true)) ∧ OldK s₁.heap s'.heap ∧ s'.os = s₁.os ∧ AllBare s'.gens) s₁:=by
  intro H hO hS hok hA hK
  have base_of : ∀ {b : Addr} {o : Obj},s₁.heap.get? b = some o → H b = none → (zeD s₁.heap H).get? b = some o:=fun e n => zii e n
  have noA : ∀ {b : Addr} {o : Obj} {es : Array DictEntry} {ep : Nat},s₁.heap.get? b = some o → o.data = .dict es ep → H b = none:=fun {b o es ep} e d => by
   cases q : H b with
   | none => rfl
   | some u =>
    have e' : b = a:=hA b (by rw [q]; simp)
    subst e'
    rw [ha] at e; cases e
    have d' : Data.seq vs.toArray _ = Data.dict es ep:=d
    cases d'
  have nsK : ∀ {b : Addr} {m : Str → Option Value},s₁.heap.Ns b m → (zeD s₁.heap H).Ns b m:=fun {b m} ⟨o,es,ep,e,d,r⟩ => ⟨o,es,ep,base_of e (noA e d),d,r⟩
  have hKb : K.In (zeD s₁.heap H):=fun b o e => base_of (KX b o e) (by
   cases q : H b with
   | none => rfl
   | some u =>
    have e' : b = a:=hA b (by rw [q]; simp)
    subst e'
    rw [hK (by rw [q]; simp)] at e; cases e)
  have hM : Mod K mg (zeD s₁.heap H):=⟨hKb,nsK hns,⟨mb,nsK hb,hbb⟩,let ⟨mc,h1,h2⟩:=hlim; ⟨mc,nsK h1,h2⟩⟩
  have e0 : Env0 P w K mg (zeD s₁.heap H) callerA [] s₁ H:=⟨rfl,hM,fun b o e => zjC e,Nat.le_of_eq (zhn _ _),trivial,fun b hb => absurd (show b ∈ ([] : List Addr) from hb) (by simp),hok,.of_eq hg⟩
  refine codeAny_mono ((F _ hKb (nsK hns)).run callerA [] s₁ H ⟨[.ref a],[]⟩ [.ref a] [.ref a] _ _ hr e0 (hbind s₁ (.ref a)) (.cons rfl .nil) (hsp H hO hS)) fun r s' h => ?_
  cases r with
  | error e => exact (hCX H e s' h).elim
  | ok fl =>
   cases fl with
   | next => exact False.elim h
   | brk => exact False.elim h
   | cont => exact False.elim h
   | ret u =>
    obtain ⟨v,H',os,bare,un,hok',r',q⟩:=h
    have q' : v = .bl true:=q
    subst q'
    obtain rfl : u = Value.bool true:=r'
    refine ⟨rfl,OldK.of_keep fun b o e => ?_,os,bare⟩
    cases q : H b with
    | none => exact un.keep b o e q (by intro z; exact absurd (show b ∈ ([] : List Addr) from z) (by simp)) (by simp)
    | some u =>
     rcases hO b with z | ⟨ob,xs,z⟩
     ·rw [q] at z; cases z
     ·have z2:=un.frzs b ob _ z
      obtain ⟨e1,_⟩:=hok b _ z
      obtain ⟨e2,_⟩:=hok' b _ z2
      rw [e] at e1; cases e1
      exact e2
 cases hk : K.lookup a with
 | some o =>
  have e:=KX a o hk
  rw [ha] at e
  cases e
  refine core (fun _ => none) (fun _ => .inl rfl) (.inr ⟨_,vs.toArray,_,hk,rfl,rfl,rfl,by rw [List.size_toArray,lenV]; exact hl,by simpa using rv⟩) (fun b u z => by have z' : (none : Option HO) = some u:=z; cases z') (fun b z => absurd rfl z) fun z => absurd rfl z
 | none =>
  refine core (fun b => if b = a then some (.frz { cls:=.type "list",data:=.seq vs.toArray } (.lst (ns.map V.int))) else none) (fun b => ?_) (.inl (.inr ⟨{ cls:=.type "list",data:=.seq vs.toArray },if_pos rfl⟩)) (fun b u z => ?_) (fun b z => ?_) fun _ => hk
  ·by_cases hb : b = a
   ·exact .inr ⟨_,_,if_pos hb⟩
   ·exact .inl (if_neg hb)
  ·by_cases hb : b = a
   ·have z':=(if_pos hb).symm.trans z
    cases z'
    subst hb
    exact ⟨ha,by rw [List.length_map]; exact hl,vs,_,rv,ha⟩
   ·have z':=(if_neg hb).symm.trans z
    cases z'
  ·by_cases hb : b = a
   ·exact hb
   ·exact absurd (if_neg hb) z
end L2
namespace L2
open PySem PySem.Spec PyProof.Rows
theorem zjL {l : PySem.W.OpenLaw} {n k : Nat} {q : Program} {loose : List Str} {XP : (Str → Option Value) → Heap → Prop} {YP : World → Heap → Prop} {d : DefRec} {K : Params → PySem.W.Frag} {CX : World → CXT} {sp : World → Sp} {x : Str}
  (hn : l.most = some n) (hn2 : n ≤ sizeLine) (hdf : d.params.defaults = []) (hr : Room k callerA)
  (hY : ∀ (w : World) (h : Heap),YP w h → (K w.params).In h)
  (F : ∀ (w : World) (mg : Str → Option Value) (fa : Addr) (h : Heap),(K w.params).In h → h.Ns mainGlobals mg → mg d.name = some (.ref fa) →
   ∃ fd : FuncData,(∀ (s : Shared) (u : Value),BindsTo s fd ⟨[u],[]⟩ [(x,u)]) ∧
    ∀ base : Heap,(K w.params).In base → base.Ns mainGlobals mg → FnOk l.prog w (K w.params) mg base (CX w) k fa fd [x] (sp w))
  (hsp : ∀ (w : World) (H : Hp) (a : Addr) (ns : List Int),ns.length ≤ n → zkW H → SqL (K w.params) H a (ns.map V.int) → sp w [.ref a] H (fun v _ => v = .bl true) fun _ _ _ => False)
  (hCX : ∀ (w : World) (H : Hp) (s : Shared) (e : Value) (s' : Shared),CX w [] H s (fun _ _ _ => False) e s' → False) :
  PySem.W.WalkO q loose XP YP l.row.toRowW d [] (fun f vs => PySem.call f vs):=by
 refine Att.attach_call hn hdf fun w s₀ s₁ mg mb fa o pm cd doc a vs ns G Y ho hd hcd hmg hobj hints hlen hg => ?_
 have KX:=hY w _ Y
 obtain ⟨fd,hb,hF⟩:=F w mg fa _ KX G.T.g hmg
 exact zix KX G.T.g G.T.b G.T.builtins G.T.nolimit hg hobj hints (Nat.le_trans hlen hn2) hr hF hb (fun H hO hS => hsp w H a ns hlen hO hS) fun H e s' => hCX w H s₁ e s'
end L2
namespace L2
open PySem PySem.Spec PyProof.Rows
def zbi (s : Stmt) : Arguments:=match s with
 | .FunctionDef _ a _ _ _ _ _ _ _ _ => a
 | _ => { posonlyargs:=[],args:=[],vararg:=none,kwonlyargs:=[],kw_defaults:=[],kwarg:=none,defaults:=[] }
def zaN (s : Stmt) : List Stmt:=match s with
 | .FunctionDef _ _ b _ _ _ _ _ _ _ => b
 | _ => []
def zi (s : Stmt) : Scope:=match s with
 | .FunctionDef _ _ _ _ _ _ sc _ _ _ => sc
 | _ => { kind:=.function,names:=[],isGenerator:=false,isCoroutine:=false }
abbrev CX0 : CXT:=fun _ _ _ _ _ _ => False
abbrev E0 : XK:=fun _ _ _ => False
theorem zW {X : Cx} : zgf CX0 X E0:=fun _ _ _ _ _ _ _ h => h.elim
structure Fun (K : PySem.W.Frag) (x qual : Str) (st : Stmt) (f : Addr) (fd : FuncData) : Prop where
 ex : ∃ (oc : Value) (od : Option Addr) (kV doc pm : Value) (an : Option Addr) (cdv ct : Value) (osl : Array (Option Value)),
  fd = PySem.W.fnOf x qual (zbi st) (zaN st) (zi st) .none kV doc pm an cdv ct ∧ K.lookup f = some ⟨oc,od,.func fd,osl⟩ ∧ PySem.W.codeIn K cdv qual = true
 kp : PySem.W.keepIn K (.ref f) = true
section
variable {P : Program} {w : World} {K : PySem.W.Frag} {mg : Str → Option Value} {base : Heap}
theorem Fun.ok {x qual : Str} {st : Stmt} {f : Addr} {fd : FuncData} {N ps : List Str} {k : Nat} {sp : Sp} (F : Fun K x qual st f fd) (S : FnScope N ps (zi st)) (len : ∀ vs H Q E,sp vs H Q E → vs.length = ps.length)
  (hbody : ∀ (cdv : Value) (A : Around) (outer : List Env) (s : Shared) (H : Hp) (vs : List V) (Q : VK) (E : XK),Room k (A.deeper (envOfC qual (zi st) s.heap.objs.size f cdv)) → sp vs H Q E →
   ∃ t,PSs (zcs CX0 P w K mg base N qual (zi st) f cdv A outer s H E).nox (zaN st) t ∧ t { nx:=fun _ H' => Q .non H',rt:=Q } (start N vs) H) : FnOk P w K mg base CX0 (k + 1) f fd ps sp:=by
 obtain ⟨oc,od,kV,doc,pm,an,cdv,ct,osl,rfl,lk,hcd⟩:=F.ex
 refine zkq lk hcd S len fun A outer s H vs Q E hr hsp => ?_
 obtain ⟨t,h,q⟩:=hbody cdv A outer s H vs Q E hr hsp
 exact ⟨t,h.nox,q⟩
theorem Fun.binds {x qual : Str} {st : Stmt} {f : Addr} {fd : FuncData} {ps : List Str} (F : Fun K x qual st f fd)
  (h : ∀ (kV doc pm : Value) (an : Option Addr) (cdv ct : Value) (us : List Value),us.length = ps.length → bindArgs (PySem.W.fnOf x qual (zbi st) (zaN st) (zi st) .none kV doc pm an cdv ct) ⟨us,[]⟩ = pure (ps.zip us)) : Binds K fd ps []:=by
 obtain ⟨oc,od,kV,doc,pm,an,cdv,ct,osl,rfl,lk,hcd⟩:=F.ex
 exact .all (h kV doc pm an cdv ct)
theorem ziy {x qual : Str} {st : Stmt} {f : Addr} {oc : Value} {od an : Option Addr} {osl : Array (Option Value)} {kV doc pm cdv ct : Value} (l : K.lookup f = some ⟨oc,od,.func (PySem.W.fnOf x qual (zbi st) (zaN st) (zi st) .none kV doc pm an cdv ct),osl⟩)
  (c : PySem.W.codeIn K cdv qual = true) (k : PySem.W.keepIn K (.ref f) = true) : Fun K x qual st f (PySem.W.fnOf x qual (zbi st) (zaN st) (zi st) .none kV doc pm an cdv ct):=⟨⟨oc,od,kV,doc,pm,an,cdv,ct,osl,rfl,l,c⟩,k⟩
end
section
variable {X : Cx}
end
theorem zeH {A B : Prop} (h : B) : if false = true then A else B:=by
 rw [if_neg Bool.false_ne_true]
 exact h
theorem zlQ {A B : Prop} (h : A) : if true = true then A else B:=by
 rw [if_pos rfl]
 exact h
theorem zaQ {c A B : Prop} [Decidable c] (h1 : c → A) (h2 : ¬ c → B) : if c then A else B:=by
 by_cases h : c
 ·rw [if_pos h]
  exact h1 h
 ·rw [if_neg h]
  exact h2 h
def zy (H H' : Hp) : Prop:=∀ b o,H b = some o → H' b = some o
theorem zy.trans {H H1 H2 : Hp} (a : zy H H1) (b : zy H1 H2) : zy H H2:=fun c o h => b c o (a c o h)
theorem zy.free {H H' : Hp} (e : zy H H') {l : Addr} (h : H' l = Option.none) : H l = Option.none:=by
 cases q : H l with
 | none => rfl
 | some o =>
  rw [e l o q] at h
  cases h
theorem zy.seq {K : PySem.W.Frag} {H H' : Hp} {a : Addr} {xs : List V} (e : zy H H') (h : SqL K H a xs) : SqL K H' a xs:=by
 rcases h with (h | ⟨o,h⟩) | h
 ·exact .inl (.inl (e _ _ h))
 ·exact .inl (.inr ⟨o,e _ _ h⟩)
 ·exact .inr h
end L2
section
set_option maxHeartbeats 3999000
namespace L2
open PySem PySem.Spec PyProof.Rows
def zau (cs : List (Str × Addr)) : List (Str × NameKind) → List (Str × Addr) → List (Str × Addr)
 | [],acc => acc
 | (n,k) :: r,acc => if k == .free then zau cs r ((n,(cs.lookup n).getD 0) :: acc) else zau cs r acc
theorem zbn {scope : Scope} {env : Env} (h : ∀ y ∈ scope.names,y.2 = .free → ∃ c,env.cells.lookup y.1 = some c) :
  closureFor scope env = pure (zau env.cells scope.names []):=by
 have go : ∀ (names : List (Str × NameKind)) (acc : List (Str × Addr)),(∀ y ∈ names,y.2 = .free → ∃ c,env.cells.lookup y.1 = some c) →
   (forIn names acc (fun (x : Str × NameKind) (cs : List (Str × Addr)) => (if (x.2 == NameKind.free) = true then do
    let a ← cellOf env x.1
    pure (ForInStep.yield ((x.1,a) :: cs)) else pure (ForInStep.yield cs) : Sem (ForInStep (List (Str × Addr)))))) = (pure (zau env.cells names acc) : Sem _):=by
  intro names
  induction names with
  | nil => intro acc _; rfl
  | cons y r ih =>
   intro acc hy
   obtain ⟨n,k⟩:=y
   rw [List.forIn_cons]
   cases hk : (k == NameKind.free) with
   | true =>
    obtain ⟨c,hc⟩:=hy (n,k) List.mem_cons_self (by simpa using hk)
    have hcell : cellOf env n = pure c:=by
     unfold cellOf
     have hc' : env.cells.lookup n = some c:=hc
     rw [hc']
    simp only [hk,if_true,hcell]
    have e:=ih ((n,c) :: acc) fun y hy' => hy y (List.mem_cons_of_mem _ hy')
    have hc' : env.cells.lookup n = some c:=hc
    simp only [zau,hk,if_true,hc',Option.getD_some]
    exact e
   | false =>
    simp only [hk,Bool.false_eq_true,if_false]
    have e:=ih acc fun y hy' => hy y (List.mem_cons_of_mem _ hy')
    simp only [zau,hk,Bool.false_eq_true,if_false]
    exact e
 have e:=go scope.names [] h
 unfold closureFor
 show (forIn scope.names [] _ >>= fun cs => pure cs) = _
 first
  | (rw [e]; rfl)
  | (simp only []; rw [e]; rfl)
  | (have e':=e; simp at e' ⊢; exact e')
theorem za0 {cs : List (Str × Addr)} : ∀ (names : List (Str × NameKind)) (acc : List (Str × Addr)),
  (∀ y ∈ names,y.2 = .free → ∃ c,cs.lookup y.1 = some c) → (∀ x c,acc.lookup x = some c → cs.lookup x = some c) →
  ∀ x c,(zau cs names acc).lookup x = some c → cs.lookup x = some c
 | [],acc,_,h,x,c,e => h x c e
 | (n,k) :: r,acc,hy,h,x,c,e => by
  have hr : ∀ y ∈ r,y.2 = .free → ∃ c,cs.lookup y.1 = some c:=fun y hy' => hy y (List.mem_cons_of_mem _ hy')
  unfold zau at e
  cases hk : (k == NameKind.free) with
  | false =>
   rw [hk] at e
   exact za0 r acc hr h x c e
  | true =>
   rw [hk] at e
   obtain ⟨d,hd⟩:=hy (n,k) List.mem_cons_self (by simpa using hk)
   have hd' : cs.lookup n = some d:=hd
   refine za0 r _ hr (fun x c e' => ?_) x c e
   rw [hd',Option.getD_some,List.lookup_cons] at e'
   cases hx : (x == n) with
   | true =>
    rw [hx] at e'
    have : x = n:=by simpa using hx
    subst this
    rw [hd']
    exact e'
   | false =>
    rw [hx] at e'
    exact h x c e'
theorem zaU {cs : List (Str × Addr)} : ∀ (names : List (Str × NameKind)) (acc : List (Str × Addr)) (x : Str),
  ((∃ c,acc.lookup x = some c) ∨ (x,NameKind.free) ∈ names) → ∃ c,(zau cs names acc).lookup x = some c
 | [],acc,x,h => by
  rcases h with h | h
  ·exact h
  ·cases h
 | (n,k) :: r,acc,x,h => by
  unfold zau
  cases hk : (k == NameKind.free) with
  | false =>
   refine zaU r acc x ?_
   rcases h with h | h
   ·exact .inl h
   ·rcases List.mem_cons.mp h with h | h
    ·cases h
     exact absurd hk (by decide)
    ·exact .inr h
  | true =>
   refine zaU r _ x ?_
   cases hx : (x == n) with
   | true => exact .inl ⟨_,by rw [List.lookup_cons,hx]⟩
   | false =>
    rcases h with ⟨c,h⟩ | h
    ·exact .inl ⟨c,by rw [List.lookup_cons,hx]; exact h⟩
    ·rcases List.mem_cons.mp h with h | h
     ·cases h
      simp at hx
     ·exact .inr h
theorem lookup_mem {α : Type} : ∀ {l : List (Str × α)} {x : Str} {k : α},l.lookup x = some k → (x,k) ∈ l
 | [],x,k,h => by simp at h
 | (n,j) :: r,x,k,h => by
  rw [List.lookup_cons] at h
  cases hx : (x == n) with
  | true =>
   rw [hx] at h
   have : x = n:=by simpa using hx
   subst this
   cases h
   exact List.mem_cons_self
  | false =>
   rw [hx] at h
   exact List.mem_cons_of_mem _ (lookup_mem h)
theorem zaA {env : Env} : ∀ {names : List (Str × NameKind)} {x : Str},names.lookup x = some .free →
  (names.map fun (n,k) => if (k == NameKind.free && env.scope.kind == .function && env.kindOf n == some .cell) then (n,NameKind.cell) else (n,k)).lookup x = some .cell ∨
  (names.map fun (n,k) => if (k == NameKind.free && env.scope.kind == .function && env.kindOf n == some .cell) then (n,NameKind.cell) else (n,k)).lookup x = some .free
 | [],_,h => by simp at h
 | (n,k) :: r,x,h => by
  have ih:=@zaA env r x
  simp only [List.map_cons]
  cases hx : x == n with
  | true =>
   simp only [List.lookup_cons,hx] at h; cases h
   by_cases hc : (NameKind.free == NameKind.free && env.scope.kind == .function && env.kindOf n == some .cell) = true
   ·rw [if_pos hc]; left; simp only [List.lookup_cons,hx]
   ·rw [if_neg hc]; right; simp only [List.lookup_cons,hx]
  | false =>
   simp only [List.lookup_cons,hx] at h; rcases Classical.em ((k == NameKind.free && env.scope.kind == .function && env.kindOf n == some .cell) = true) with hc | hc
   ·exact (by rw [if_pos hc]; simp only [List.lookup_cons,hx]; exact ih h)
   ·exact (by rw [if_neg hc]; simp only [List.lookup_cons,hx]; exact ih h)
theorem zbD {env : Env} : ∀ {names : List (Str × NameKind)} {x : Str},
  ((names.map fun (n,k) => if (k == NameKind.free && env.scope.kind == .function && env.kindOf n == some .cell) then (n,NameKind.cell) else (n,k)).lookup x = some .cell ∨
  (names.map fun (n,k) => if (k == NameKind.free && env.scope.kind == .function && env.kindOf n == some .cell) then (n,NameKind.cell) else (n,k)).lookup x = some .free) →
  names.lookup x = some .free ∨ names.lookup x = some .cell
 | [],_,h => by simp at h
 | (n,k) :: r,x,h => by
  have ih:=@zbD env r x
  simp only [List.map_cons] at h
  cases hx : x == n with
  | true =>
   rcases Classical.em ((k == NameKind.free && env.scope.kind == .function && env.kindOf n == some .cell) = true) with hc | hc
   ·have hk : k = .free:=by
     simp only [Bool.and_eq_true] at hc; simpa using hc.1.1
    subst hk
    exact .inl (by simp only [List.lookup_cons,hx])
   ·rw [if_neg hc] at h
    simp only [List.lookup_cons,hx] at h ⊢
    rcases h with h | h
    ·exact .inr h
    ·exact .inl h
  | false =>
   rcases Classical.em ((k == NameKind.free && env.scope.kind == .function && env.kindOf n == some .cell) = true) with hc | hc
   ·rw [if_pos hc] at h
    simp only [List.lookup_cons,hx] at h ⊢
    exact ih h
   ·rw [if_neg hc] at h
    simp only [List.lookup_cons,hx] at h ⊢
    exact ih h
end L2
end
section
set_option maxHeartbeats 3999000
namespace L2
open PySem PySem.Spec PyProof.Rows
abbrev zF (X : Cx) (N' : List Str) (scope : Scope) (s₃ : Shared) (H₃ : Hp) (ex : List Addr) (pins : List (Addr × Obj)) : Cx :=
 { X with N:=N',s₀:=s₃,H₀:=H₃,env:=compEnvC scope (zau X.env.cells scope.names []) s₃.heap.objs.size X.env,outer:=X.stack,stack:=X.stack,ex:=ex,fn:=fun _ => false,pn:=X.pn ++ pins,xe:=fun _ _ => False }
def zeI (ifs : List Expr) (env : Env) : Sem Bool :=
 forIn ifs true fun c r => if r = true then do let ok ← isTrue c env (eval c env); pure (ForInStep.yield ok) else pure (ForInStep.yield r)
def zcZ (X : Cx) (ifs : List Expr) (t : TT) : Prop :=
 ∀ (pins : List (Addr × Obj)) (s : Shared) (σ : St) (H : Hp) (Q : Bool → Hp → Prop),Inv X pins σ H s → t σ H Q → wpAny (model X.prog X.w) X.A (zeI ifs X.env) (TP X pins σ Q) X.xe s
def zkX : TT:=fun _ H Q => Q true H
theorem z8 {X : Cx} : zcZ X [] zkX:=fun _ _ _ H _ I h => wpAny_pure ⟨H,I,h⟩
theorem zaB {X : Cx} {c : Expr} {t : TT} (h : PT X c t) : zcZ X [c] t:=by
 intro pins s σ H Q I hw
 unfold zeI
 rw [List.forIn_cons]
 simp only [if_true]
 exact wpAny_bind (wpAny_bind (thn (h pins s σ H _ I hw) fun b s1 q => wpAny_pure (wpAny_pure q)))
structure CompSc (X : Cx) (N' : List Str) (ix : List (Option Nat)) (scope : Scope) : Prop where
 kind : scope.kind = .function
 nocell : ∀ y ∈ scope.names,y.2 ≠ .cell
 names : ∀ y ∈ scope.names,y.2 = .local → scope.names.lookup y.1 = some .local
 free : ∀ y ∈ scope.names,y.2 = .free → X.env.kindOf y.1 = some .cell ∨ X.env.kindOf y.1 = some .free
 len : N'.length = ix.length
 cap : ∀ j i : Nat,ix[j]? = some (some i) → ∃ x,N'[j]? = some x ∧ X.N[i]? = some x ∧ scope.names.lookup x = some .free
def zgN (osc : Scope) (oN N' : List Str) (ix : List (Option Nat)) (scope : Scope) : Bool :=
 (scope.kind == .function) && (scope.names.all fun y => y.2 != .cell) && (scope.names.all fun y => y.2 != .local || scope.names.lookup y.1 == some .local) &&
 (scope.names.all fun y => y.2 != .free || (osc.names.lookup y.1 == some .cell || osc.names.lookup y.1 == some .free)) && (N'.length == ix.length) &&
 ((List.range ix.length).all fun j => match ix[j]? with
  | some (some i) => (match N'[j]? with
   | some x => oN[i]? == some x && scope.names.lookup x == some .free
   | none => false)
  | _ => true)
theorem CompSc.of {X : Cx} {N' : List Str} {ix : List (Option Nat)} {scope : Scope} (osc : Scope) (oN : List Str) (h1 : X.env.scope = osc) (h2 : X.N = oN) (hb : zgN osc oN N' ix scope = true) : CompSc X N' ix scope:=by
 unfold zgN at hb
 simp only [Bool.and_eq_true,List.all_eq_true] at hb
 obtain ⟨⟨⟨⟨⟨a,b⟩,c⟩,d⟩,e⟩,f⟩:=hb
 refine ⟨?_,fun y hy => ?_,fun y hy hl => ?_,fun y hy hf => ?_,by simpa using e,fun j i hj => ?_⟩
 ·revert a
  cases scope.kind <;> first | (intro _; rfl) | (intro h; exact absurd h (by decide))
 ·have:=b y hy
  simpa using this
 ·have:=c y hy
  rw [hl] at this
  simpa using this
 ·have:=d y hy
  rw [hf] at this
  have e1 : X.env.kindOf y.1 = osc.names.lookup y.1:=by rw [← h1]; rfl
  rw [e1]
  simpa using this
 ·have hlt : j < ix.length:=(List.getElem?_eq_some_iff.mp hj).1
  have:=f j (List.mem_range.mpr hlt)
  rw [hj] at this
  cases hN : N'[j]? with
  | none =>
   rw [hN] at this
   simp at this
  | some x =>
   rw [hN] at this
   refine ⟨x,rfl,?_⟩
   rw [h2]
   simpa using this
def zar (ix : List (Option Nat)) (σ : St) : St:=ix.map fun o => match o with
 | none => none
 | some i => (σ[i]?).join
theorem Inv.track {X : Cx} {pins : List (Addr × Obj)} {σ : St} {H : Hp} {s : Shared} {D : Addr} {o : HO} (I : Inv X pins σ H s) (hn : H D = none) (hs : X.s₀.heap.objs.size ≤ D) (hL : X.env.locals ≠ D)
  (hC : ∀ x c,X.env.cells.lookup x = some c → c ≠ D) (hp : ∀ p ∈ X.pn ++ pins,p.1 ≠ D) (ok : zR X.prog X.w (upd H D o) s.heap D o) : Inv X pins σ (upd H D o) s:=by
 have ne : ∀ b u,H b = some u → b ≠ D:=fun b u e => zu e hn
 refine ⟨I.ok,I.os,I.bare,⟨I.base.keep,I.base.slot,fun b u e n hx => ?_,I.base.there,fun b xs e => ?_,fun b u xs e => ?_,fun b ps e => ?_⟩,I.loc,I.cell,?_,fun x c e => ?_,fun p hp' => ?_,fun b u e => ?_,I.len⟩
 ·have : b ≠ D:=Nat.ne_of_lt (Nat.lt_of_lt_of_le (Heap.lt_size e) hs)
  rw [zp this]
  exact I.base.free b u e n hx
 ·have:=I.base.tups b xs e
  rw [zp (ne b _ this)]
  exact this
 ·have:=I.base.frzs b u xs e
  rw [zp (ne b _ this)]
  exact this
 ·obtain ⟨more,q⟩:=I.base.tbls b ps e
  exact ⟨more,by rw [zp (ne b _ q)]; exact q⟩
 ·rw [zp hL]
  exact I.free
 ·rw [zp (hC x c e)]
  exact I.freeC x c e
 ·obtain ⟨a1,a2,a3⟩:=I.pin p hp'
  exact ⟨a1,by rw [zp (hp p hp')]; exact a2,a3⟩
 ·by_cases hb : b = D
  ·subst hb
   rw [zb] at e
   cases e
   exact ok
  ·rw [zp hb] at e
   exact (I.hok b u e).stay (fun c v _ q => q) (fun c q => by rw [zp (ne c _ q)]; exact q) fun c xs q => by rw [zp (ne c _ q)]; exact q
theorem zbR {prog : Program} {w : World} {A : Around} {R : Result → Shared → Prop} {s : Shared} {elt target iter : Expr} {ifs : List Expr} {scope : Scope} {pos : Pos} {it acc : Value} {env : Env} (I : Nat → Shared → Prop) (turn : ∀ n s,I n s → wpAny (model prog w) A (pyNext it) (fun r s₁ => match r with
   | none => R (.ok .next) s₁
   | some v => wpAny (model prog w) A (letOwnedTupleGo target it v) (fun _ s₁' => wpAny (model prog w) A (assign target env v) (fun _ s₂ =>
     wpAny (model prog w) A (zeI ifs env) (fun ok s₃ => if ok = true then wpAny (model prog w) A (eval elt env) (fun x s₄ =>
       wpAny (model prog w) A (call (.builtin "list.append") [acc,x]) (fun _ s₅ => ∃ m,m < n ∧ I m s₅) (fun _ _ => False) s₄) (fun _ _ => False) s₃
      else ∃ m,m < n ∧ I m s₃) (fun _ _ => False) s₂) (fun _ _ => False) s₁') (fun _ _ => False) s₁) (fun _ _ => False) s)
  (n : Nat) (h : I n s) : codeAny (model prog w) A (.compLoop (.ListComp elt [⟨target,iter,ifs,0⟩] scope pos) 0 it acc env) R s:=by
 refine codeAny_loop rfl I (fun n s hI => ?_) n h; show wpAny _ A ((compTurn (.ListComp elt [⟨target,iter,ifs,0⟩] scope pos) 0 it acc env).onRaise (fun x => do noteFrame x env; theTreesLotGoes x)) _ _ s
 refine wpAny_noted ?_
 rw [compTurn_list]
 refine wpAny_bind (wpAny_standAt (wpAny_bind (wpAny_mono (turn n s hI) (fun r s₁ h₁ => ?_) fun _ _ z => False.elim z)))
 cases r with
 | none => exact wpAny_pure h₁
 | some v =>
  refine wpAny_bind (wpAny_mono h₁ (fun _ s₁' h₁' => ?_) fun _ _ z => False.elim z)
  refine wpAny_bind (wpAny_mono h₁' (fun _ s₂ h₂ => wpAny_bind (wpAny_mono h₂ (fun ok s₃ h₃ => ?_) fun _ _ z => False.elim z)) fun _ _ z => False.elim z)
  cases ok with
  | false => exact (wpAny_pure ⟨rfl,h₃⟩)
  | true =>
   exact wpAny_bind (wpAny_bind (wpAny_mono h₃ (fun x s₄ h₄ => wpAny_bind (wpAny_mono h₄ (fun _ s₅ h₅ => wpAny_pure (wpAny_pure ⟨rfl,h₅⟩)) fun _ _ z => False.elim z)) fun _ _ z => False.elim z))
def Wk (σ0 σ1 : St) : Prop:=σ1.length = σ0.length ∧ ∀ (j : Nat) v,σ0[j]? = some (some v) → σ1[j]? = some (some v)
theorem Wk.refl (σ : St) : Wk σ σ:=⟨rfl,fun _ _ h => h⟩
theorem Wk.set {ix : List (Option Nat)} {σ σ1 : St} {i : Nat} {v : Option V} (hi : ix[i]? = some none) (h : Wk (zar ix σ) σ1) : Wk (zar ix σ) (σ1.set i v):=by
 refine ⟨by rw [List.length_set]; exact h.1,fun j w e => ?_⟩
 have hj : j ≠ i:=by
  rintro rfl
  unfold zar at e
  rw [List.getElem?_map,hi] at e
  simp at e
 rw [List.getElem?_set_ne (Ne.symm hj)]
 exact h.2 j w e
def GK (ix : List (Option Nat)) (g : TG) : Prop:=∀ (σ σ1 : St) (x : V) (H : Hp) (Q : St → Hp → Prop),Wk (zar ix σ) σ1 → g x σ1 H Q → g x σ1 H fun σ2 H2 => Wk (zar ix σ) σ2 ∧ Q σ2 H2
def GKs (ix : List (Option Nat)) (g : TGs) : Prop:=∀ (σ σ1 : St) (xs : List V) (H : Hp) (Q : St → Hp → Prop),Wk (zar ix σ) σ1 → g xs σ1 H Q → g xs σ1 H fun σ2 H2 => Wk (zar ix σ) σ2 ∧ Q σ2 H2
theorem zam {ix : List (Option Nat)} {i : Nat} (hi : ix[i]? = some none) : GK ix (zaz i):=fun σ σ1 x H Q hw h => ⟨hw.set hi,h⟩
theorem za1 {ix : List (Option Nat)} : GKs ix zho:=fun σ σ1 xs H Q hw h => ⟨h.1,hw,h.2⟩
theorem zO {ix : List (Option Nat)} {i : Nat} {u : TGs} (hi : ix[i]? = some none) (h2 : GKs ix u) : GKs ix (zcc (zaz i) u):=fun σ σ1 xs H Q hw h => by
 obtain ⟨v,r,e,h⟩:=h
 exact ⟨v,r,e,h2 σ _ r H Q (hw.set hi) h⟩
theorem zbo {ix : List (Option Nat)} {K : PySem.W.Frag} {n : Nat} {t : TGs} (h : GKs ix t) : GK ix (zgb K n t):=fun σ σ1 x H Q hw hg => by
 obtain ⟨a,xs,e,hq,hl,hg⟩:=hg
 exact ⟨a,xs,e,hq,hl,h σ σ1 xs H Q hw hg⟩
theorem zhu {ix : List (Option Nat)} {g : TG} {u : TGs} (h1 : GK ix g) (h2 : GKs ix u) (mono : ∀ (x : V) (σ : St) (H : Hp) (Q Q' : St → Hp → Prop),(∀ σ' H',Q σ' H' → Q' σ' H') → g x σ H Q → g x σ H Q') : GKs ix (zcc g u):=fun σ σ1 xs H Q hw h => by
 obtain ⟨v,r,e,h⟩:=h
 refine ⟨v,r,e,mono v σ1 H _ _ (fun σ' H' q => ?_) (h1 σ σ1 v H _ hw h)⟩
 exact h2 σ σ' r H' Q q.1 q.2
def cGo (g : TG) (ts : TT) (te : TE) (σ0 : St) (J : It) (Q : VK) (H1 : Hp) : Prop :=
 ∃ W : Nat → Nat → List V → Hp → Prop,(∃ m,W 0 m [] H1) ∧ ∀ i m ys H,W i m ys H →
  (J.stop i H ∧ ∀ D,H D = none → Q (.ref D) (upd H D (.lst ys))) ∨
  (J.go i H ∧ ∃ N : List V → Hp → Prop,(∀ ys' H',N ys' H' → ∃ m',m' < m ∧ W (i + 1) m' ys' H') ∧ ∀ x H',J.yld i H x H' → g x σ0 H' fun σ2 H2 => ts σ2 H2 fun b H3 =>
   if b = true then te σ2 H3 fun y H4 => ys.length < sizeLine ∧ N (ys ++ [y]) H4 else N ys H3)
def zkr (ix : List (Option Nat)) (wi : TI) (g : TG) (ts : TT) (te : TE) : TE:=fun σ H Q => wi σ H fun J H1 => cGo g ts te (zar ix σ) J Q H1
section
variable {X : Cx} {elt tg iter : Expr} {ifs : List Expr} {scope : Scope} {pos : Pos} {N' : List Str} {ix : List (Option Nat)} {g : TG} {ts : TT} {te : TE}
theorem zeh {pins : List (Addr × Obj)} {σ : St} {H2 : Hp} {s2 : Shared} {it : Addr} {fp : List Addr} {tn : Nat → Heap → Prop} {J : It} {Q : VK} {E : Value → Shared → Prop} {RR : Value → Addr → Result → Shared → Prop}
  (SC : CompSc X N' ix scope) (hc : X.calm = true) (hk : GK ix g)
  (hg : ∀ s₃ H₃ ex pins,PG (zF X N' scope s₃ H₃ ex pins) tg g) (ht : ∀ s₃ H₃ ex pins,zcZ (zF X N' scope s₃ H₃ ex pins) ifs ts) (he : ∀ s₃ H₃ ex pins,PE (zF X N' scope s₃ H₃ ex pins) elt te)
  (I2 : Inv X pins σ H2 s2) (T : Turn X.prog X.w X.K tg J fp it tn) (st2 : tn 0 s2.heap) (f2 : ∀ b ∈ fp,zbg X pins H2 b) (q : cGo g ts te (zar ix σ) J Q H2)
  (hRR : ∀ (D C : Addr) (s' : Shared) (ys : List V) (H' : Hp) (m : Str → Option Value),Inv X pins σ (upd H' D (.lst ys)) s' → zbg X pins (upd H' D (.lst ys)) C → s'.heap.Ns C m → Q (.ref D) (upd H' D (.lst ys)) → RR (.ref D) C (.ok .next) s') :
  wpAny (model X.prog X.w) X.A (newList []) (fun acc s₃ => wpAny (model X.prog X.w) X.A (newFunctionEnv scope X.env.globals (zau X.env.cells scope.names []) [] X.env.qual none .none (some X.env)) (fun cenv s₄ =>
   codeAny (model X.prog X.w) X.A (.compStart (.ListComp elt [⟨tg,iter,ifs,0⟩] scope pos) 0 (.ref it) acc { cenv with scope:=relabel scope X.env }) (RR acc cenv.locals) s₄) E s₃) E s2:=by
 have hfr : ∀ y ∈ scope.names,y.2 = .free → ∃ c,X.env.cells.lookup y.1 = some c:=fun y hy hf => I2.ok.has y.1 (SC.free y hy hf)
 have hcl : ∀ x c,(zau X.env.cells scope.names []).lookup x = some c → X.env.cells.lookup x = some c:=za0 scope.names [] hfr (fun x c e => by simp at e)
 refine wpAny_newObj_type (wpAny_newFunctionEnv SC.nocell (by intro y hy; simp at hy) (fun h₁ hns₁ hsb₁ => ?_) SC.kind)
 dsimp only at hns₁ hsb₁ ⊢
 have I3 : Inv X pins σ H2 { s2 with heap:=s2.heap.push { cls:=.type "list",dict:=none,data:=.seq ([] : List Value).toArray } }:=I2.kept (t':=s2.toks) fun b o e => Heap.get?_push_of_some _ e
 have hD3 : (s2.heap.push { cls:=.type "list",dict:=none,data:=.seq ([] : List Value).toArray }).get? s2.heap.objs.size = some { cls:=.type "list",dict:=none,data:=.seq ([] : List Value).toArray }:=Heap.get?_push_size _ rfl
 have hst3 : tn 0 (s2.heap.push { cls:=.type "list",dict:=none,data:=.seq ([] : List Value).toArray }):=T.keep _ _ _ st2 fun b hb o e => Heap.get?_push_of_some _ e
 have hsz3 : (s2.heap.push { cls:=.type "list",dict:=none,data:=.seq ([] : List Value).toArray }).objs.size = s2.heap.objs.size + 1:=Heap.size_push _ _
 generalize hh3 : s2.heap.push { cls:=.type "list",dict:=none,data:=.seq ([] : List Value).toArray } = h3 at *
 have hfpO:=T.obj _ _ st2
 have hfpLt : ∀ b ∈ fp,b < s2.heap.objs.size:=fun b hb => by obtain ⟨o,e,_⟩:=hfpO b hb; exact Heap.lt_size e
 have stk : ∀ b ∈ frs X.stack,b = X.env.locals ∨ b ∈ X.fs:=fun b hb => List.mem_cons.mp (I2.stkSub b hb)
 have hDok : zbg X pins H2 s2.heap.objs.size:=I2.fpOk (Nat.le_refl _) I2.fresh
 have exOk : ∀ b ∈ s2.heap.objs.size :: fp,zbg X pins H2 b:=fun b hb => by
  rcases (List.mem_cons.mp hb) with e | hb
  ·rw [e]; exact hDok
  ·exact f2 b hb
 have exLt : ∀ b ∈ s2.heap.objs.size :: fp,b < h3.objs.size:=fun b hb => by
  rw [hsz3]
  rcases (List.mem_cons.mp hb) with e | hb; · rw [e]; exact Nat.lt_succ_self _
  ·exact Nat.lt_succ_of_lt (hfpLt b hb)
 have exStk : ∀ b ∈ s2.heap.objs.size :: fp,b ∉ frs X.stack:=fun b hb z => by
  obtain ⟨_,a1,a2,_⟩:=exOk b hb
  rcases stk b z with e | e
  ·exact a1 e
  ·exact a2 e
 have old : ∀ b o,h3.get? b = some o → h₁.get? b = some o:=fun b o e => hsb₁.extBut b o (Nat.ne_of_lt (Heap.lt_size e)) (Heap.get?_push_of_some _ e)
 let s3 : Shared:={ s2 with heap:=h3 }
 let Y : Cx:=zF X N' scope s3 H2 (s2.heap.objs.size :: fp) pins
 have I3' : Inv X pins σ H2 s3:=I3
 have okY : Y.Ok:=by
  refine ⟨I2.ok.mod,SC.kind,I2.ok.glob,I2.ok.blt,Nat.le_refl _,fun x y c h1 h2 => I2.ok.inj x y c (hcl x c h1) (hcl y c h2),fun x hx => ?_,fun x c z => (by cases z),I2.ok.hd,I2.ok.frames,.inl rfl,fun b hb => ?_,fun b o e => I3'.bs b o e,?_,fun b o e hb => ?_,exStk,I3'.stack,I3'.stkFree⟩
  ·have hx':=zbD (env:=X.env) (names:=scope.names) (x:=x) hx
   rcases hx' with hx' | hx'
   ·exact zaU scope.names [] x (.inr (lookup_mem hx'))
   ·exact absurd rfl (SC.nocell _ (lookup_mem hx'))
  ·exact ⟨Nat.ne_of_lt (exLt b hb),fun x c e => (exOk b hb).2.2.2.2.1 x c (hcl x c e)⟩
  ·exact Nat.le_trans I2.ok.bsz I3'.sz
  ·obtain ⟨_,_,_,a3,_⟩:=exOk b hb
   rcases a3 with z | z
   ·exact I2.ok.noex b o e z
   ·have:=(I2.ok.bs b o e).1
    exact absurd (Nat.lt_of_lt_of_le (Heap.lt_size this) z) (Nat.lt_irrefl _)
 have inv4 : Inv Y [] (zar ix σ) H2 { s3 with heap:=h₁,toks:=s2.toks + ([] : List (Str × Value)).length }:=by
  refine ⟨okY,rfl,I2.bare,Un.kept old,⟨_,hns₁,fun j x v e1 e2 e3 => ?_⟩,fun x c e => ?_,I3'.fresh,fun x c e => I2.freeC x c (hcl x c e),fun p hp => ?_,I3'.hok.kept old,?_⟩
  ·unfold zar at e2
   rw [List.getElem?_map] at e2
   cases hj : ix[j]? with
   | none => rw [hj] at e2; simp at e2
   | some oi =>
    rw [hj] at e2
    cases oi with
    | none => simp at e2
    | some i =>
     obtain ⟨y,h1,h2,h3'⟩:=SC.cap j i hj
     have hxy : y = x:=by
      have e1' : N'[j]? = some x:=e1
      rw [h1] at e1'
      exact Option.some.inj e1'
     subst hxy
     have e2' : (σ[i]?).join = some v:=by simpa using e2
     have e2'' : σ[i]? = some (some v):=by
      cases hs : σ[i]? with
      | none => rw [hs] at e2'; simp at e2'
      | some w => rw [hs] at e2'; simp at e2'; rw [e2']
     obtain ⟨m,hn,hl⟩:=I3'.loc
     have hk:=SC.free (y,.free) (lookup_mem h3') rfl
     have hvis : Vis X.env.scope y:=hk.elim (fun z => .inr (.inl z)) fun z => .inr (.inr z)
     obtain ⟨u,r,l⟩:=hl i y v h2 e2'' hvis
     refine ⟨u,r,.inr ⟨zaA h3',?_⟩⟩
     obtain ⟨c,hcc⟩:=zaU (cs:=X.env.cells) scope.names [] y (.inr (lookup_mem h3'))
     refine ⟨c,hcc,?_⟩
     rcases l with ⟨hk',_⟩ | ⟨_,c',hc',hcell⟩
     ·rcases hk with hk | hk
      ·have hk2 : X.env.kindOf y = some .cell:=hk
       rw [hk2] at hk'; cases hk'
      ·have hk2 : X.env.kindOf y = some .free:=hk
       rw [hk2] at hk'; cases hk'
     ·have:=hcl y c hcc
      rw [hc'] at this
      cases this
      obtain ⟨o,ho,hd⟩:=hcell
      exact ⟨o,old _ _ ho,hd⟩
  ·obtain ⟨v,o,ho,hd⟩:=I3'.cell x c (hcl x c e)
   exact ⟨v,o,old _ _ ho,hd⟩
  ·have hp' : p ∈ X.pn ++ pins:=by
    have : p ∈ (X.pn ++ pins) ++ ([] : List (Addr × Obj)):=hp
    simpa using this
   obtain ⟨a1,a2,a3,a4,a5⟩:=I3'.pin p hp'
   exact ⟨old _ _ a1,a2,Nat.ne_of_lt (Heap.lt_size a1),fun z => (stk _ z).elim a3 a4,a5⟩
  ·unfold zar
   rw [List.length_map]
   exact SC.len.symm
 obtain ⟨W,⟨m0,w0⟩,turn⟩:=q
 have fpY : ∀ {H' : Hp} {pl : List (Addr × Obj)},(∀ b ∈ fp,H' b = none) → (∀ p ∈ pl,p.1 = s2.heap.objs.size) → ∀ b ∈ fp,zbg Y pl H' b:=fun {H' pl} hn hpl b hb => by
  obtain ⟨_,a1,a2,a3,a4,a5⟩:=f2 b hb
  refine ⟨hn b hb,Nat.ne_of_lt (exLt b (List.mem_cons_of_mem _ hb)),exStk b (List.mem_cons_of_mem _ hb),.inl (List.mem_cons_of_mem _ hb),fun x c e => a4 x c (hcl x c e),fun p hp => ?_⟩; rcases List.mem_append.mp hp with hp | hp
  ·exact a5 p hp
  ·rw [hpl p hp]
   exact (Nat.ne_of_lt (hfpLt b hb)).symm
 have dOk : ∀ {its : List Value} {nn : Nat} {H' : Hp} {σ' : St} {s' : Shared},Inv Y [] σ' H' s' → H' s2.heap.objs.size = none → s'.heap.get? s2.heap.objs.size = some { cls:=.type "list",data:=.seq its.toArray nn } →
   Inv Y [(s2.heap.objs.size,{ cls:=.type "list",data:=.seq its.toArray nn })] σ' H' s':=fun {its nn H' σ' s'} I' hn e => I'.pins_of fun p hp => by
  obtain rfl : p = (s2.heap.objs.size,{ cls:=.type "list",data:=.seq its.toArray nn }):=by simpa using hp
  exact ⟨e,hn,Nat.ne_of_lt (exLt _ List.mem_cons_self),exStk _ List.mem_cons_self,fun v z => by cases z⟩
 have loop : ∀ s₅ : Shared,s₅ = { s2 with heap:=h₁,toks:=s2.toks + ([] : List (Str × Value)).length } →
   codeAny (model X.prog X.w) X.A (.compLoop (.ListComp elt [⟨tg,iter,ifs,0⟩] scope pos) 0 (.ref it) (.ref s2.heap.objs.size) (compEnvC scope (zau X.env.cells scope.names []) h3.objs.size X.env)) (RR (.ref s2.heap.objs.size) h3.objs.size) s₅:=by
  rintro s₅ rfl
  refine zbR (fun n s' => ∃ i ys H' its nn,Inv Y [] (zar ix σ) H' s' ∧ tn i s'.heap ∧ (∀ b ∈ fp,H' b = none) ∧ H' s2.heap.objs.size = none ∧ s'.heap.get? s2.heap.objs.size = some { cls:=.type "list",data:=.seq its.toArray nn } ∧ zA ys its ∧ ys.length ≤ sizeLine ∧ W i n ys H') ?_ m0
   ⟨0,[],H2,[],0,inv4,T.keep _ _ _ hst3 fun b hb o e => old b o e,fun b hb => (f2 b hb).1,I2.fresh,old _ _ hD3,.nil,Nat.zero_le _,w0⟩
  rintro n s5 ⟨i,ys,H5,its,nn,I5,st5,fr5,dn5,d5,v5,z5,w5⟩
  have I5p:=dOk I5 dn5 d5
  rcases turn i n ys H5 w5 with ⟨stop,qn⟩ | ⟨go,N,hN,step⟩
  ·refine thn (T.done Y rfl rfl rfl hc i _ s5 _ H5 (fun _ _ => False) I5p (fpY fr5 (fun p hp => by
    obtain rfl : p = (s2.heap.objs.size,{ cls:=.type "list",data:=.seq its.toArray nn }):=by simpa using hp
    rfl)) st5 stop) fun r s6 ⟨hr,I6⟩ => ?_
   subst hr
   have d6 : s6.heap.get? s2.heap.objs.size = some { cls:=.type "list",data:=.seq its.toArray nn }:=(I6.pin (s2.heap.objs.size,_) (List.mem_append_right _ List.mem_cons_self)).1
   have I7 : Inv X pins σ H5 s6:=by
    refine I3'.call' (s':=s6) (ch:=s2.heap.objs.size :: fp) I6.os I6.base I6.hok I6.bare fun b hb => ?_
    obtain ⟨_,a1,a2,a3,a4,a5⟩:=exOk b hb
    exact ⟨a3,a1,a4,a5⟩
   have I8 : Inv X pins σ (upd H5 s2.heap.objs.size (.lst ys)) s6:=by
    obtain ⟨_,a1,a2,a3,a4,a5⟩:=hDok
    exact I7.track dn5 I2.sz (Ne.symm a1) a4 a5 ⟨z5,its,nn,v5,d6⟩
   obtain ⟨mm,hmm,_⟩:=I6.loc
   have dne : h3.objs.size ≠ s2.heap.objs.size:=by rw [hsz3]; exact Nat.succ_ne_self _
   refine hRR _ _ s6 ys H5 mm I8 (I3'.fpOk (H':=upd H5 s2.heap.objs.size (.lst ys)) (Nat.le_refl _) ?_) hmm (qn _ dn5)
   show upd H5 s2.heap.objs.size (.lst ys) h3.objs.size = none
   rw [zp dne]
   exact I6.free
  ·have hpl : ∀ p ∈ [(s2.heap.objs.size,({ cls:=.type "list",data:=.seq its.toArray nn } : Obj))],p.1 = s2.heap.objs.size:=fun p hp => by
    obtain rfl : p = (s2.heap.objs.size,{ cls:=.type "list",data:=.seq its.toArray nn }):=by simpa using hp
    rfl
   refine thn (T.item Y rfl rfl rfl hc i _ s5 _ H5 (fun _ _ => False) I5p (fpY fr5 hpl) st5 go) fun r s6 ⟨u,hr,h6⟩ => ?_
   subst hr
   refine thn h6 fun _ s7 ⟨x,H7,I7,r7,y7,st7,fr7⟩ => ?_
   have I7':=I7.pinned (fpY fr7 hpl) (T.obj _ _ st7)
   have back : ∀ {σ8 : St} {H8 : Hp} {s8 : Shared},Inv Y ([(s2.heap.objs.size,({ cls:=.type "list",data:=.seq its.toArray nn } : Obj))] ++ zbB fp s7.heap) σ8 H8 s8 → Wk (zar ix σ) σ8 →
     Inv Y [] (zar ix σ) H8 s8 ∧ tn (i + 1) s8.heap ∧ (∀ b ∈ fp,H8 b = none) ∧ H8 s2.heap.objs.size = none ∧ s8.heap.get? s2.heap.objs.size = some { cls:=.type "list",data:=.seq its.toArray nn }:=fun {σ8 H8 s8} I8 wk => by
    have pD:=I8.pin (s2.heap.objs.size,_) (List.mem_append_right _ (List.mem_append_left _ List.mem_cons_self))
    have I8a : Inv Y [] σ8 H8 s8:=I8.pins_of fun p hp => by cases hp
    refine ⟨I8a.weak wk.1.symm wk.2,T.keep _ _ _ st7 fun b hb o e => (I8.pin (b,o) (List.mem_append_right _ (List.mem_append_right _ (zaR hb e)))).1,fun b hb => ?_,pD.2.1,pD.1⟩
    obtain ⟨o,e,d⟩:=T.obj _ _ st7 b hb
    exact (I8.pin (b,o) (List.mem_append_right _ (List.mem_append_right _ (zaR hb e)))).2.1
   refine thn (hg s3 H2 (s2.heap.objs.size :: fp) pins _ s7 _ H7 x u _ I7' r7 (hk σ _ x H7 _ (Wk.refl _) (step x H7 y7))) fun _ s8 ⟨σ8,H8,I8,wk8,q8⟩ => ?_
   refine thn (ht s3 H2 (s2.heap.objs.size :: fp) pins _ s8 σ8 H8 _ I8 q8) fun ok s9 ⟨H9,I9,q9⟩ => ?_
   cases ok with
   | false =>
    rw [if_neg Bool.false_ne_true] at q9 ⊢
    obtain ⟨m',hm,w9⟩:=hN _ _ q9
    obtain ⟨a1,a2,a3,a4,a5⟩:=back I9 wk8
    exact ⟨m',hm,i + 1,ys,H9,its,nn,a1,a2,a3,a4,a5,v5,z5,w9⟩
   | true =>
    rw [if_pos rfl] at q9 ⊢
    refine thn (he s3 H2 (s2.heap.objs.size :: fp) pins _ s9 σ8 H9 _ I9 q9) fun yv s10 ⟨y,H10,I10,r10,hz,n10⟩ => ?_
    obtain ⟨m',hm,w10⟩:=hN _ _ n10
    obtain ⟨a1,a2,a3,a4,a5⟩:=back I10 wk8
    have hvl:=v5.length
    refine call_meets F.slot_list_append ⟨_,a5,rfl⟩ F.entry_list_append (F.args_list_append_2 _ _) (PySem.list_append s2.heap.objs.size its.toArray nn yv (by rw [List.size_toArray]; omega)) ⟨a5,?_⟩
    have q:=PySem.IsL.update a5 (·.push yv)
    have k10 : ∀ b o,b ≠ s2.heap.objs.size → s10.heap.get? b = some o → (s10.heap.update s2.heap.objs.size (Obj.mapSeq (·.push yv))).get? b = some o:=fun b o hb e => (Heap.get?_update_other s10.heap (Obj.mapSeq (·.push yv)) (Ne.symm hb)).trans e
    obtain ⟨_,b1,b2,b3,b4,b5⟩:=hDok
    have I11 : Inv Y [] (zar ix σ) H10 { s10 with heap:=s10.heap.update s2.heap.objs.size (Obj.mapSeq (·.push yv)) } :=
     a1.turned (t':=s10.toks) k10 a4 (Nat.ne_of_lt (exLt _ List.mem_cons_self)) (.inl List.mem_cons_self) (fun x c e => b4 x c (hcl x c e)) (fun p hp => by
      have : p ∈ (X.pn ++ pins) ++ ([] : List (Addr × Obj)):=hp
      exact b5 p (by simpa using this))
    have e1 : its.toArray.push yv = (its ++ [yv]).toArray:=by simp
    rw [e1] at q
    refine ⟨m',hm,i + 1,ys ++ [y],H10,its ++ [yv],_,I11,T.keep _ _ _ a2 fun b hb o e => k10 b o (Nat.ne_of_lt (hfpLt b hb)) e,a3,a4,q,v5.append (.cons r10 .nil),?_,w10⟩
    rw [List.length_append,List.length_singleton]
    omega
 exact codeAny_compStart_list (loop _ rfl) (T.self _ 0 _ _ _ (T.keep _ _ _ hst3 fun b hb o e => old b o e) (loop _ rfl))
theorem zai {wi : TI} (SC : CompSc X N' ix scope) (hc : X.calm = true) (hk : GK ix g) (hi : PI X tg iter wi)
  (hg : ∀ s₃ H₃ ex pins,PG (zF X N' scope s₃ H₃ ex pins) tg g) (ht : ∀ s₃ H₃ ex pins,zcZ (zF X N' scope s₃ H₃ ex pins) ifs ts) (he : ∀ s₃ H₃ ex pins,PE (zF X N' scope s₃ H₃ ex pins) elt te)
  (hs : ∀ x,foldedSetIterable iter X.env x = pure x:=by intro _; rfl) : PE X (.ListComp elt [⟨tg,iter,ifs,0⟩] scope pos) (zkr ix wi g ts te):=by
 intro pins s σ H Q I h
 rw [eval_ListComp]
 have hfr : ∀ y ∈ scope.names,y.2 = .free → ∃ c,X.env.cells.lookup y.1 = some c:=fun y hy hf => I.ok.has y.1 (SC.free y hy hf)
 refine wpAny_comprehension_free (use:=none) rfl hs (zbn hfr) SC.kind SC.names (thn (hi pins s σ H _ I h) fun v s1 h1 => thn h1 fun itv s2 h2 => ?_)
 obtain ⟨it,fp,tn,J,H2,e,I2,T,st2,f2,q⟩:=h2
 subst e
 refine zeh (RR:=fun acc C => compPost (model X.prog X.w) X.A X.xe none (EP X pins σ Q) acc C) SC hc hk hg ht he I2 T st2 f2 q ?_
 intro D C s' ys H' m I' fpC hm q'
 refine ⟨m,hm,fun h'' hs'' => ⟨.ref D,_,?_,rfl,q'⟩⟩
 obtain ⟨f0,f1,f2',f3,f4,f5⟩:=fpC
 exact I'.turned (t':=s'.toks) (fun b o hb e => hs''.extBut b o hb e) f0 f1 f3 f4 f5
theorem zav {wi : TI} {i : Nat} {x : Str} {pos' spos : Pos} (hN : X.N.Nodup) (hxi : X.N[i]? = some x) (hx : Loc X.env.scope x) (SC : CompSc X N' ix scope) (hc : X.calm = true) (hk : GK ix g) (hi : PI X tg iter wi)
  (hg : ∀ s₃ H₃ ex pins,PG (zF X N' scope s₃ H₃ ex pins) tg g) (ht : ∀ s₃ H₃ ex pins,zcZ (zF X N' scope s₃ H₃ ex pins) ifs ts) (he : ∀ s₃ H₃ ex pins,PE (zF X N' scope s₃ H₃ ex pins) elt te)
  (hsw : swapsWith (.ListComp elt [⟨tg,iter,ifs,0⟩] scope pos) (some (.Name x pos')) spos.line X.env = pure true:=by rfl)
  (hs : ∀ x,foldedSetIterable iter X.env x = pure x:=by intro _; rfl) (hf : X.fn x = true ∨ X.env.scope.names.lookup x = some .local:=by first | exact .inl rfl | exact .inr rfl | assumption) :
  PS X (.Assign [.Name x pos'] (.ListComp elt [⟨tg,iter,ifs,0⟩] scope pos) spos) (zdU (zkr ix wi g ts te) (zaz i)):=by
 intro pins s σ H D I h
 have hfr : ∀ y ∈ scope.names,y.2 = .free → ∃ c,X.env.cells.lookup y.1 = some c:=fun y hy hf => I.ok.has y.1 (SC.free y hy hf)
 rw [exec_Assign_Name_used _ _ _ _ hsw]; refine wpAny_bind (wpAny_standAt (wpAny_bind ?_))
 show wpAny _ X.A (do let _ ← comprehension (.ListComp elt [⟨tg,iter,ifs,0⟩] scope pos) scope X.env _ (newList []) false (eval iter X.env) (some (assign (.Name x pos') X.env))) _ _ s
 refine wpAny_bind (wpAny_mono (wpAny_comprehension_free (use:=some (assign (.Name x pos') X.env)) (Q:=fun _ s' => SP X pins D .next s') rfl hs (zbn hfr) SC.kind SC.names
  (thn (hi pins s σ H _ I h) fun v s1 h1 => thn h1 fun itv s2 h2 => ?_)) (fun _ s' hq => wpAny_pure (wpAny_pure hq)) fun _ _ e => e)
 obtain ⟨it,fp,tn,J,H2,e,I2,T,st2,f2,q⟩:=h2
 subst e
 refine zeh (RR:=fun acc C => compPost (model X.prog X.w) X.A X.xe (some (assign (.Name x pos') X.env)) (fun _ s' => SP X pins D .next s') acc C) SC hc hk hg ht he I2 T st2 f2 q ?_
 intro Da C s' ys H' m I' fpC hm q'
 show wpAny _ X.A (assign (.Name x pos') X.env (.ref Da)) _ _ _
 refine wpAny_assign_Name (zcK I' hN hxi hx (show RelV (.ref Da) (.ref Da) from rfl) (fun s'' I'' ⟨a,hsb,ha⟩ => ?_) hf)
 obtain ⟨f0,f1,f2',f3,f4,f5⟩:=fpC
 have hCa : C ≠ a:=by
  rcases ha with e | e
  ·rw [e]; exact f1
  ·exact Ne.symm (f4 x a e)
 refine ⟨m,hm.sameBut hsb hCa,fun h₃ hs₃ => ⟨_,_,?_,q'⟩⟩
 exact I''.turned (t':=s''.toks) (fun b o hb e => hs₃.extBut b o hb e) f0 f1 f3 f4 f5
end
theorem zU {J : It} {n : Nat} {g : TG} {ts : TT} {te : TE} {σ0 : St} {Q : VK} {H : Hp} (Pv : Nat → List V → Hp → Prop) (h0 : Pv 0 [] H) (hgo : ∀ i ys H,i < n → Pv i ys H → J.go i H) (hst : ∀ ys H,Pv n ys H → J.stop n H)
  (hs : ∀ i x ys H H',i < n → Pv i ys H → J.yld i H x H' → g x σ0 H' fun σ2 H2 => ts σ2 H2 fun b H3 => if b = true then te σ2 H3 fun y H4 => ys.length < sizeLine ∧ Pv (i + 1) (ys ++ [y]) H4 else Pv (i + 1) ys H3)
  (hd : ∀ ys H D,Pv n ys H → H D = none → Q (.ref D) (upd H D (.lst ys))) : cGo g ts te σ0 J Q H:=by
 refine ⟨fun i m ys H => m = n - i ∧ i ≤ n ∧ Pv i ys H,⟨n,by simp,Nat.zero_le _,h0⟩,?_⟩
 rintro i m ys H ⟨rfl,hi,p⟩
 by_cases hlt : i < n
 ·exact .inr ⟨hgo i ys H hlt p,Pv (i + 1),fun ys' H' p' => ⟨n - (i + 1),by omega,rfl,hlt,p'⟩,fun x H' y => hs i x ys H H' hlt p y⟩
 ·have e : i = n:=by omega
  subst e
  exact .inl ⟨hst ys H p,fun D hD => hd ys H D p hD⟩
theorem ziz {J : It} {n : Nat} {g : TG} {tb : TS} {D : Ends} {σ : St} {H : Hp} (Pv : Nat → St → Hp → Prop) (h0 : Pv 0 σ H) (hgo : ∀ i σ H,i < n → Pv i σ H → J.go i H) (hst : ∀ σ H,Pv n σ H → J.stop n H)
  (hs : ∀ i x σ H H',i < n → Pv i σ H → J.yld i H x H' → g x σ H' fun σ2 H2 => tb { D with nx:=Pv (i + 1),ct:=Pv (i + 1),bk:=D.nx } σ2 H2) (hd : ∀ σ H,Pv n σ H → D.nx σ H) :
  ∃ W : Nat → Nat → St → Hp → Prop,(∃ m,W 0 m σ H) ∧ ∀ i m σ H,W i m σ H →
   (J.stop i H ∧ D.nx σ H) ∨ (J.go i H ∧ ∃ N : St → Hp → Prop,(∀ σ' H',N σ' H' → ∃ m',m' < m ∧ W (i + 1) m' σ' H') ∧ ∀ x H',J.yld i H x H' → g x σ H' fun σ2 H2 => tb { D with nx:=N,ct:=N,bk:=D.nx } σ2 H2):=by
 refine ⟨fun i m σ H => m = n - i ∧ i ≤ n ∧ Pv i σ H,⟨n,by simp,Nat.zero_le _,h0⟩,?_⟩
 rintro i m σ H ⟨rfl,hi,p⟩
 by_cases hlt : i < n
 ·exact .inr ⟨hgo i σ H hlt p,Pv (i + 1),fun σ' H' p' => ⟨n - (i + 1),by omega,rfl,hlt,p'⟩,fun x H' y => hs i x σ H H' hlt p y⟩
 ·have e : i = n:=by omega
  subst e
  exact .inl ⟨hst σ H p,hd σ H p⟩
end L2
end
section
set_option maxHeartbeats 3999000
namespace L2
open PySem PySem.Spec PyProof.Rows
section
variable {X : Cx} {pins : List (Addr × Obj)} {σ : St} {H : Hp} {s : Shared} {h' : Heap}
theorem Inv.turnedL {t' : Nat} {ch : List Addr} (I : Inv X pins σ H s) (k : ∀ b o,b ∉ ch → s.heap.get? b = some o → h'.get? b = some o) (hf : ∀ b ∈ ch,zbg X pins H b)
  (th : ∀ b ∈ ch,∃ o,h'.get? b = some o) : Inv X pins σ H { s with heap:=h',toks:=t' }:=by
 have nit : ∀ b u,H b = some u → b ∉ ch:=fun b u e z => by rw [(hf b z).1] at e; cases e
 refine I.step (g':=s.gens) (d':=s.drawn) (ch:=ch) (fun b hb => ?_) (fun b o _ _ hc e _ => k b o hc e) (fun b o _ _ hc e _ => ⟨o.slots,k b o hc e⟩) (fun _ _ _ _ n => n)
  (fun b o hc e => ⟨o,k b o hc e⟩) (fun _ _ e => e) (fun _ _ _ e => e) (fun b ps e => ⟨#[],by rw [e]; simp⟩) (fun m hm => ?_) (fun b u e => ?_) I.bare
 ·obtain ⟨_,a1,_,a3,a4,a5⟩:=hf b hb
  exact ⟨a3,a1,a4,a5⟩
 ·obtain ⟨o,es,ep,ho,r⟩:=hm
  exact ⟨o,es,ep,k _ o (fun z => (hf _ z).2.1 rfl) ho,r⟩
 ·refine (I.hok b u e).stay (fun c v hc q => k c v ?_ q) (fun _ q => q) fun _ _ q => q
  rcases hc with z | z
  ·rw [z]; exact nit b u e
  ·exact nit c _ z
theorem Inv.turnedNew {t' : Nat} {ch : List Addr} {T : Addr} {o : HO} (I : Inv X pins σ H s) (k : ∀ b o,b ∉ ch → s.heap.get? b = some o → h'.get? b = some o) (hf : ∀ b ∈ ch,zbg X pins H b)
  (th : ∀ b ∈ ch,∃ o,h'.get? b = some o) (hT : s.heap.objs.size ≤ T) (ok : zR X.prog X.w (upd H T o) h' T o) : Inv X pins σ (upd H T o) { s with heap:=h',toks:=t' }:=by
 have I1 : Inv X pins σ H { s with heap:=h',toks:=t' }:=I.turnedL k hf th
 have hn : H T = none:=I.hok.fresh hT
 obtain ⟨_,a1,a2,a3,a4,a5⟩:=I.fpOk (H':=H) hT hn
 exact I1.track hn (Nat.le_trans I.sz hT) (Ne.symm a1) a4 a5 ok
end
theorem zbE {h : Heap} {T : Addr} {a b : Value} (e : h.get? T = some { cls:=.type "tuple",data:=.seq #[a,b] }) : IsTup h T ([a,b] : List Value).toArray:=⟨_,e,rfl,_,rfl⟩
theorem zaJ : 2 ≤ sizeLine:=by rw [sizeLine_eq]; decide
def zhv (Sq1 Sq2 : Hp → Addr → List V → Prop) (a b : Addr) : It :=
 ⟨fun i H => ∃ xs ys x y,Sq1 H a xs ∧ Sq2 H b ys ∧ xs[i]? = some x ∧ ys[i]? = some y,
  fun i H x H' => ∃ T u v,H T = none ∧ x = .ref T ∧ H' = upd H T (.tup [u,v]) ∧ (∀ xs,Sq1 H a xs → xs[i]? = some u) ∧ ∀ ys,Sq2 H b ys → ys[i]? = some v,
  fun i H => ∃ xs ys,Sq1 H a xs ∧ Sq2 H b ys ∧ (xs.length ≤ i ∨ ys.length ≤ i)⟩
theorem zhw {P : Program} {w : World} {K : PySem.W.Frag} {es : List Expr} {k : Nat} {pos : Pos} (a b : Addr) (n : Nat) (ha : a < n) (hb : b < n) : Turn P w K (.Tuple es k pos) (zhv (SqL K) (SqL K) a b) [n + 4,n + 2,n + 3,n,n + 1] (n + 4)
  (fun i h => IsZip h (n + 4) (n + 2) (n + 3) .none ∧ IsPair h (n + 2) (.ref n) (.ref (n + 1)) ∧ (∃ u v,IsPair h (n + 3) u v) ∧ h.IsListIter n a i ∧ h.IsListIter (n + 1) b i) where
 mem:=by simp
 obj:=fun i h st c hc => by
  obtain ⟨h1,h2,⟨u,v,h3⟩,⟨o4,e4,_,d4⟩,⟨o5,e5,_,d5⟩⟩:=st
  simp only [List.mem_cons,List.not_mem_nil,or_false] at hc
  rcases hc with z | z | z | z | z <;> subst z
  ·exact ⟨_,h1,fun v z => by cases z⟩
  ·exact ⟨_,h2,fun v z => by cases z⟩
  ·exact ⟨_,h3,fun v z => by cases z⟩
  ·exact ⟨_,e4,fun v z => by rw [d4] at z; cases z⟩
  ·exact ⟨_,e5,fun v z => by rw [d5] at z; cases z⟩
 keep:=fun i h h' st kk => by
  obtain ⟨h1,h2,⟨u,v,h3⟩,h4,h5⟩:=st
  exact ⟨kk _ (by simp) _ h1,kk _ (by simp) _ h2,⟨u,v,kk _ (by simp) _ h3⟩,h4.at fun o eo => kk _ (by simp) o eo,h5.at fun o eo => kk _ (by simp) o eo⟩
 item:=by
  intro X hP hw hK hc i pins s σ H E I hf st hg
  subst hP hw hK
  obtain ⟨xs,ys,x,y,hq1,hq2,hx,hy⟩:=hg
  obtain ⟨h1,h2,⟨u0,v0,h3⟩,h4,h5⟩:=st
  obtain ⟨its1,rv1,p1,hz1⟩:=I.list hq1
  obtain ⟨its2,rv2,p2,hz2⟩:=I.list hq2
  obtain ⟨u,hu,ru⟩:=rv1.get hx
  obtain ⟨v,hv,rv⟩:=rv2.get hy
  have hzs : n + 4 < s.heap.objs.size:=Heap.lt_size h1
  refine wpAny_pyNext_zip_item (zipApart_new ha hb) h1 h2 h3 h4 h5 p1.isList p2.isList (x:=u) (y:=v) (by simpa using hu) (by simpa using hv) fun h' a1 a2 a3 a4 a5 a6 kk => ?_
  have k1 : ∀ c o,c ∉ [n + 4,n + 3,n,n + 1] → s.heap.get? c = some o → h'.get? c = some o:=fun c o hc' eo =>
   kk c o (fun z => hc' (by simp [z])) (fun z => hc' (by simp [z])) (fun z => hc' (by simp [z])) (fun z => hc' (by simp [z])) eo
  have sub : ∀ c ∈ [n + 4,n + 3,n,n + 1],c ∈ [n + 4,n + 2,n + 3,n,n + 1]:=fun c hc' => by
   simp only [List.mem_cons,List.not_mem_nil,or_false] at hc' ⊢
   rcases hc' with z | z | z | z <;> subst z <;> simp
  have th1 : ∀ c ∈ [n + 4,n + 3,n,n + 1],∃ o,h'.get? c = some o:=fun c hc' => by
   simp only [List.mem_cons,List.not_mem_nil,or_false] at hc'
   rcases hc' with z | z | z | z <;> subst z
   ·exact ⟨_,a1⟩
   ·exact ⟨_,a2⟩
   ·obtain ⟨o,e,_⟩:=a3; exact ⟨o,e⟩
   ·obtain ⟨o,e,_⟩:=a4; exact ⟨o,e⟩
  have I1 : Inv X pins σ (upd H s.heap.objs.size (.tup [x,y])) { s with heap:=h' } :=
   I.turnedNew (t':=s.toks) k1 (fun c hc' => hf c (sub c hc')) th1 (Nat.le_refl _) ⟨zaJ,_,.cons ru (.cons rv .nil),zbE a5⟩
  refine ⟨_,rfl,wpAny_letOwnedTupleGo_zip a1 fun h'' hz'' hs'' => ?_⟩
  have fr : ∀ c ∈ [n + 4,n + 2,n + 3,n,n + 1],upd H s.heap.objs.size (.tup [x,y]) c = none:=fun c hc' => by
   have hlt : c < s.heap.objs.size:=by
    simp only [List.mem_cons,List.not_mem_nil,or_false] at hc'
    rcases hc' with z | z | z | z | z <;> subst z <;> omega
   rw [zp (Nat.ne_of_lt hlt)]
   exact (hf c hc').1
  have I2 : Inv X pins σ (upd H s.heap.objs.size (.tup [x,y])) { s with heap:=h'' } :=
   Inv.turnedL (s:={ s with heap:=h' }) (ch:=[n + 4]) (t':=s.toks) I1 (fun c o hc' eo => hs''.extBut c o (by simpa using hc') eo) (fun c hc' => by
    have z : c = n + 4:=by simpa using hc'
    subst z
    exact ⟨fr _ (by simp),(hf _ (by simp)).2⟩) (fun c hc' => by
    have z : c = n + 4:=by simpa using hc'
    subst z
    exact ⟨_,hz''⟩)
  refine ⟨.ref s.heap.objs.size,_,I2,rfl,⟨_,x,y,I.fresh,rfl,rfl,fun zs hz => by rw [I.list_inj hz hq1]; exact hx,fun zs hz => by rw [I.list_inj hz hq2]; exact hy⟩,
   ⟨hz'',hs''.extBut _ _ (zipApart_new ha hb).TIz (kk _ _ (zipApart_new ha hb).TIz (zipApart_new ha hb).TITO (zipApart_new ha hb).TIi1 (zipApart_new ha hb).TIi2 h2),⟨_,_,hs''.extBut _ _ (zipApart_new ha hb).TOz a2⟩,a3.extBut hs''.extBut (zipApart_new ha hb).i1z,a4.extBut hs''.extBut (zipApart_new ha hb).i2z⟩,fr⟩
 done:=by
  intro X hP hw hK hc i pins s σ H E I hf st hg
  subst hP hw hK
  obtain ⟨xs,ys,hq1,hq2,hx⟩:=hg
  obtain ⟨h1,h2,⟨u0,v0,h3⟩,h4,h5⟩:=st
  obtain ⟨its1,rv1,p1,hz1⟩:=I.list hq1
  obtain ⟨its2,rv2,p2,hz2⟩:=I.list hq2
  have hl1:=rv1.length
  have hl2:=rv2.length
  refine wpAny_pyNext_zip_end (I.ok.hd hc) (zipApart_new ha hb) h1 h2 h3 h4 h5 p1.isList p2.isList ?_ fun h' kk => ⟨rfl,?_⟩
  ·rcases hx with z | z
   ·exact .inl (by simp; omega)
   ·exact .inr (by simp; omega)
  ·have hth : ∀ c ∈ [n + 4,n + 3,n,n + 1],c ∈ [n + 4,n + 2,n + 3,n,n + 1]:=fun c hc' => by
    simp only [List.mem_cons,List.not_mem_nil,or_false] at hc' ⊢
    rcases hc' with z | z | z | z <;> subst z <;> simp
   refine I.step (g':=s.gens) (d':=s.drawn) (t':=s.toks) (ch:=[n + 4,n + 3,n,n + 1]) (fun c hc' => ?_) (fun c o _ _ hcc e _ => kk c o (fun z => hcc (by simp [z])) (fun z => hcc (by simp [z])) (fun z => hcc (by simp [z])) (fun z => hcc (by simp [z])) e)
    (fun c o _ _ hcc e _ => ⟨o.slots,kk c o (fun z => hcc (by simp [z])) (fun z => hcc (by simp [z])) (fun z => hcc (by simp [z])) (fun z => hcc (by simp [z])) e⟩) (fun _ _ _ _ n => n)
    (fun c o hcc e => ⟨o,kk c o (fun z => hcc (by simp [z])) (fun z => hcc (by simp [z])) (fun z => hcc (by simp [z])) (fun z => hcc (by simp [z])) e⟩) (fun _ _ e => e) (fun _ _ _ e => e) (fun c ps e => ⟨#[],by rw [e]; simp⟩) (fun m hm => ?_) (fun c u e => ?_) I.bare
   ·obtain ⟨_,a1,_,a3,a4,a5⟩:=hf c (hth c hc')
    exact ⟨a3,a1,a4,a5⟩
   ·obtain ⟨o,es',ep,ho,r⟩:=hm
    have ne : ∀ c ∈ [n + 4,n + 2,n + 3,n,n + 1],X.env.locals ≠ c:=fun c hc' => Ne.symm (hf c hc').2.1
    exact ⟨o,es',ep,kk _ o (ne _ (by simp)) (ne _ (by simp)) (ne _ (by simp)) (ne _ (by simp)) ho,r⟩
   ·have nit : ∀ d u',H d = some u' → ∀ c ∈ [n + 4,n + 2,n + 3,n,n + 1],d ≠ c:=fun d u' e' c hc' z => by rw [z,(hf c hc').1] at e'; cases e'
    refine (I.hok c u e).stay (fun d v' hd q => kk d v' ?_ ?_ ?_ ?_ q) (fun _ q => q) fun _ _ q => q
    all_goals
     rcases hd with z | z
     ·rw [z]; exact nit c u e _ (by simp)
     ·exact nit d _ z _ (by simp)
 self:=fun _ _ _ _ _ st h => wpAny_pyIter_zip st.1 h
def iZp (Sq1 Sq2 : Hp → Addr → List V → Prop) (ta : TA) : TI:=fun σ H R => ta σ H fun vs H1 => ∃ a b xs ys,vs = [.ref a,.ref b] ∧ Sq1 H1 a xs ∧ Sq2 H1 b ys ∧ R (zhv Sq1 Sq2 a b) H1
theorem zdc {X : Cx} {es : List Expr} {k : Nat} {tpos p pos : Pos} {a b : Expr} {ta : TA} (hg : Gl X "zip") (hm : X.mg "zip" = none) (ha : PA X [a,b] ta) (hs : starEach [a,b] X.env = [(false,eval a X.env),(false,eval b X.env)]:=by rfl) (hs2 : starEach [b] X.env = [(false,eval b X.env)]:=by rfl) :
  PI X (.Tuple es k tpos) (.Call (.Name "zip" p) [a,b] [] pos) (iZp (SqL X.K) (SqL X.K) ta):=by
 intro pins s σ H R I h
 refine Call_ (zbm I hg hm boot_zip (PyProof.Rows.callWith_type1 (thn (ha pos pins s σ H _ I h) fun us s1 ⟨vs,H1,I1,r1,q1⟩ => ?_) (by rw [hs,hs2]) (by rw [hs2]; rfl)))
 obtain ⟨l1,l2,xs,ys,e,hq1,hq2,q⟩:=q1
 subst e
 cases r1 with
 | cons r rr =>
  cases rr with
  | cons r' rr =>
   cases rr
   cases r
   cases r'
   obtain ⟨its1,rv1,pl1,hz1⟩:=I1.list hq1
   obtain ⟨its2,rv2,pl2,hz2⟩:=I1.list hq2
   have hlt1 : l1 < s1.heap.objs.size:=by obtain ⟨_,_,e,_⟩:=pl1; exact Heap.lt_size e
   have hlt2 : l2 < s1.heap.objs.size:=by obtain ⟨_,_,e,_⟩:=pl2; exact Heap.lt_size e
   refine call_zip_2 pl1.isList pl2.isList fun h' b1 b2 b3 b4 b5 b6 kk => ?_
   have I2 : Inv X pins σ H1 { s1 with heap:=h' }:=I1.kept (t':=s1.toks) kk
   refine wpAny_pyIter_zip b1 ?_
   refine ⟨_,_,_,zhv (SqL X.K) (SqL X.K) l1 l2,H1,rfl,I2,zhw l1 l2 s1.heap.objs.size hlt1 hlt2,⟨b1,b2,⟨_,_,b3⟩,b4,b5⟩,fun c hc => ?_,q⟩
   have hle : s1.heap.objs.size ≤ c:=by
    simp only [List.mem_cons,List.not_mem_nil,or_false] at hc
    rcases hc with z | z | z | z | z <;> subst z <;> omega
   exact I1.fpOk hle (I1.hok.fresh hle)
def zfj (Sq : Hp → Addr → List V → Prop) (a : Addr) (n : Nat) : It :=
 ⟨fun i H => i < n ∧ ∃ xs,Sq H a xs ∧ xs.length = n,fun i H x H' => H' = H ∧ ∀ xs,Sq H a xs → xs[n - 1 - i]? = some x,fun i H => n ≤ i⟩
theorem zhx {P : Program} {w : World} {K : PySem.W.Frag} {tg : Expr} (a it : Addr) (n : Nat) : Turn P w K tg (zfj (SqL K) a n) [it] it (fun i h => i ≤ n ∧ h.IsRevIter it a ((n : Int) - 1 - (i : Int))) where
 mem:=by simp
 obj:=fun i h st b hb => by
  have z : b = it:=by simpa using hb
  subst z
  obtain ⟨_,o,e,c,d⟩:=st
  exact ⟨o,e,fun v z => by rw [d] at z; cases z⟩
 keep:=fun i h h' st k => ⟨st.1,st.2.at fun o e => k it (by simp) o e⟩
 item:=by
  intro X hP hw hK hc i pins s σ H E I hf st hg
  subst hP hw hK
  obtain ⟨hin,xs,hq,hl⟩:=hg
  obtain ⟨its,rv,p,hz⟩:=I.list hq
  have hlen:=rv.length
  obtain ⟨x,hx⟩ : ∃ x,xs[n - 1 - i]? = some x:=⟨xs[n - 1 - i]'(by omega),by simp⟩
  obtain ⟨u,hu,ru⟩:=rv.get hx
  obtain ⟨f0,f1,f2,f3,f4,f5⟩:=hf it (by simp)
  have e : (n : Int) - 1 - (i : Int) = ((n - 1 - i : Nat) : Int):=by omega
  have hit:=st.2
  rw [e] at hit
  refine wpAny_pyNext_rev_item hit p.isList (x:=u) (by simpa using hu) fun h' st' sb => ?_
  have I1 : Inv X pins σ H { s with heap:=h' }:=I.turned (t':=s.toks) (fun b o hb e => (sb.2 b hb).trans e) f0 f1 f3 f4 f5
  have e2 : ((n - 1 - i : Nat) : Int) - 1 = (n : Int) - 1 - ((i + 1 : Nat) : Int):=by omega
  rw [e2] at st'
  obtain ⟨o,eo,c,d⟩:=id st'
  exact ⟨u,rfl,zd4 (s:={ s with heap:=h' }) eo c d (by decide) ⟨x,H,I1,ru,⟨rfl,fun ys hy => by rw [I.list_inj hy hq]; exact hx⟩,⟨hin,st'⟩,fun b hb => (hf b hb).1⟩⟩
 done:=by
  intro X hP hw hK hc i pins s σ H E I hf st hg
  subst hP hw hK
  obtain ⟨f0,f1,f2,f3,f4,f5⟩:=hf it (by simp)
  have hin : n ≤ i:=hg
  have e : (n : Int) - 1 - (i : Int) = -1:=by have:=st.1; omega
  have hit:=st.2
  rw [e] at hit
  exact wpAny_pyNext_rev_end (I.ok.hd hc) hit fun h' eb => ⟨rfl,I.turned (t':=s.toks) (fun b o hb e => eb b o hb e) f0 f1 f3 f4 f5⟩
 self:=fun _ _ _ _ _ st h => wpAny_pyIter_revIter st.2 h
end L2
end
section
set_option maxHeartbeats 3999000
namespace PySem
namespace F
theorem zei : Manifest.owners.lookup (String.ofList ['d','e','s','r','e','v','e','r'].reverse) = some Manifest.sig_reversed:=by kernel_rfl
theorem slot_rvd_next : Slot "reversed" "__next__" "reversed.__next__" :=
 .of (owner:="reversed") (n:="__next__") (by rw [typeLookup_type,builtinLookup_eq_fast]; kernel_rfl) (by decide +kernel) (by decide +kernel) (by decide +kernel) (by first | exact .inl (by decide +kernel) | exact .inr (by decide +kernel)) (by rw [isSubtype_type]; kernel_rfl)
theorem entry_rvd_next : entryFor table "reversed.__next__" = some Builtin.«reversed.__next__»:=entryFor_of_tree (by kernel_rfl)
theorem args_rvd_next_1 (a : Value) : argsOk "reversed.__next__" ⟨[a],[]⟩:=by
 unfold argsOk; rw [signature?_of (id:="reversed.__next__") (n:=['_','_','t','x','e','n','_','_']) (o:=['d','e','s','r','e','v','e','r']) (by kernel_rfl) zei]; kernel_rfl
theorem slot_rvd_iter : Slot "reversed" "__iter__" "reversed.__iter__" :=
 .of (owner:="reversed") (n:="__iter__") (by rw [typeLookup_type,builtinLookup_eq_fast]; kernel_rfl) (by decide +kernel) (by decide +kernel) (by decide +kernel) (by first | exact .inl (by decide +kernel) | exact .inr (by decide +kernel)) (by rw [isSubtype_type]; kernel_rfl)
theorem args_rvd_iter_1 (a : Value) : argsOk "reversed.__iter__" ⟨[a],[]⟩:=by
 unfold argsOk; rw [signature?_of (id:="reversed.__iter__") (n:=['_','_','r','e','t','i','_','_']) (o:=['d','e','s','r','e','v','e','r']) (by kernel_rfl) zei]; kernel_rfl
theorem entry_rvd_iter : entryFor table "reversed.__iter__" = some Builtin.«dict_keyiterator.__iter__»:=entryFor_alias (id':="dict_keyiterator.__iter__") (by kernel_rfl) (by first | rfl | decide +kernel | (unfold String.splitOn; simp +decide [String.splitOnAux])) (by decide +kernel) (by kernel_rfl)
theorem zdW : Slot "reversed" "__init__" "object.__init__":=.of (owner:="object") (n:="__init__") (by rw [typeLookup_type,builtinLookup_eq_fast]; kernel_rfl) (by decide +kernel) (by decide +kernel) (by decide +kernel) (by first | exact .inl (by decide +kernel) | exact .inr (by decide +kernel)) (by rw [isSubtype_type]; kernel_rfl)
theorem called_rvd : TypeCalled "reversed" "reversed.__new__" "object.__init__" :=
 ⟨by decide +kernel,by decide +kernel,⟨_,_,mro_reversed⟩,made_reversed,by decide +kernel,by rw [isSubtype_type]; kernel_rfl,zdW⟩
theorem noRev_tuple : typeLookup (.type "tuple") "__reversed__" = pure none:=by rw [typeLookup_type,builtinLookup_eq_fast]; kernel_rfl
end F
def zeJ (l : Addr) (i : Int) : Obj:={ cls:=.type "reversed",data:=.fields #[.ref l,rawInt i] }
def Heap.IsRvd (h : Heap) (a l : Addr) (i : Int) : Prop:=∃ o,h.get? a = some o ∧ o.cls = .type "reversed" ∧ o.data = .fields #[.ref l,rawInt i]
theorem Heap.IsRvd.typeIs {s : Shared} {a l : Addr} {i : Int} (x : s.heap.IsRvd a l i) : s.TypeIs (.ref a) "reversed":=let ⟨o,ho,hc,_⟩:=x; ⟨o,ho,hc⟩
theorem Heap.IsRvd.at {h h' : Heap} {a l : Addr} {i : Int} (x : h.IsRvd a l i) (e : ∀ o,h.get? a = some o → h'.get? a = some o) : h'.IsRvd a l i:=let ⟨o,ho,r⟩:=x; ⟨o,e _ ho,r⟩
open PyProof.Rows in
theorem zdX (l : Addr) (items : Array Value) :
  Meets (Builtin.«reversed.__new__» ⟨[.type "reversed",.ref l],[]⟩) (fun _ R s => IsTup s.heap l items ∧ (items.size : Int) < 2 ^ 63 ∧
   R (.ok (.ret (.ref s.heap.objs.size))) { s with heap:=s.heap.push (zeJ l ((items.size : Int) - 1)),toks:=s.toks + 1 + 1 }) :=
 .of_wp fun prog w A R s h => by
  obtain ⟨hl,hsz,h⟩:=h
  unfold Builtin.«reversed.__new__»; refine wpAny_bind (wpAny_of_eq (newClass_reversed _) ?_)
  try dsimp only
  iterate 2 refine wpAny_bind (wpAny_of_eq (a:=()) (by first | rfl | kernel_rfl) ?_)
  try dsimp only
  refine wpAny_bind (wpAny_specialOf hl.typeIs F.noRev_tuple ?_)
  try dsimp only
  refine wpAny_bind (wpAny_bind (m:=isInstance (.ref l) (.type "dict")) (wpAny_isInstance hl.typeIs F.sub_tuple_dict ?_))
  simp only [Bool.false_eq_true,if_false]; refine wpAny_bind (m:=specialOf (.ref l) "__getitem__") (wpAny_specialOf hl.typeIs slot_tuple_getitem.lookup ?_)
  refine wpAny_pure ?_
  try dsimp only
  try simp only [Bool.not_true,Bool.false_eq_true,if_false]
  refine wpAny_bind (len_tuple hl hsz ?_)
  refine wpAny_bind (m:=asInt? _) (wpAny_of_eq (a:=some (items.size : Int)) rfl ?_)
  try dsimp only
  refine wpAny_bind (m:=Builtin.SmallTypes.newRecord _ _) ?_
  show wpAny _ _ (newObj (.type "reversed") (.fields #[.ref l,rawInt ((items.size : Int) - 1)]) none) _ _ _
  refine wpAny_newObj_type ?_
  exact wpAny_pure ⟨_,rfl,h⟩
section
variable {prog : Program} {w : World} {A : Around} {E : Value → Shared → Prop} {s : Shared}
open PyProof.Rows
theorem zdt {l : Addr} {items : Array Value} {Q : Value → Shared → Prop} (hl : IsTup s.heap l items) (hsz : (items.size : Int) < 2 ^ 63)
  (h : Q (.ref s.heap.objs.size) { s with heap:=s.heap.push (zeJ l ((items.size : Int) - 1)),toks:=s.toks + 1 + 1 }) : wpAny (model prog w) A (call (.type "reversed") [.ref l]) Q E s:=by
 refine callType_new F.called_rvd (by decide) (F.typeCall_reversed_1 _) (F.newCall_reversed_1 _) (fun obj => F.args_object_init_2 obj _) F.entry_reversed_new (zdX l items) ⟨hl,hsz,?_⟩; exact ⟨⟨_,Heap.get?_push_size _ rfl,rfl⟩,h⟩
theorem zbN {it l : Addr} {i : Nat} {items : Array Value} {x : Value} {Q : Option Value → Shared → Prop} (hit : s.heap.IsRvd it l (i : Int)) (hl : IsTup s.heap l items) (hx : items[i]? = some x) (hi : (i : Int) < 2 ^ 62)
  (hQ : ∀ h',h'.IsRvd it l ((i : Int) - 1) → Heap.SameBut it s.heap h' → Q (some x) { s with heap:=h',toks:=s.toks + 1 }) : wpAny (model prog w) A (pyNext (.ref it)) Q E s:=by
 obtain ⟨o,ho,hc,hd⟩:=id hit; unfold pyNext
 refine wpAny_bind (wpAny_attempt (wpAny_callSpecial?_slot (name:=Str.ofString "__next__") hit.typeIs F.slot_rvd_next
  (wpAny_call_entry F.slot_rvd_next hit.typeIs F.entry_rvd_next ?_ (F.args_rvd_next_1 _))))
 unfold Builtin.«reversed.__next__»
 refine wpAny_bind (wpAny_of_eq (a:=(Value.ref it,[])) rfl ?_); try dsimp only
 refine wpAny_bind (wpAny_field ho hd (x:=.ref l) rfl ?_); refine wpAny_bind (wpAny_field ho hd (x:=rawInt (i : Int)) rfl ?_)
 show wpAny _ _ (if (i : Int) < 0 then _ else _) _ _ s; rw [if_neg (by omega)]
 refine wpAny_bind (wpAny_specialOf hl.typeIs slot_tuple_getitem.lookup ?_)
 try simp only [Option.isNone_some,Bool.false_eq_true,if_false]
 refine wpAny_bind (wpAny_mkInt ?_); have hlt : i < items.size:=by
  obtain ⟨h1,_⟩:=Array.getElem?_eq_some_iff.mp hx
  exact h1
 refine wpAny_bind (wpAny_attempt (getItem_tuple (j:=i) hl (by omega) (by omega) (by rw [seqIndex_of (by omega) (by omega)]; simp) hx ?_))
 try dsimp only
 refine wpAny_bind (wpAny_field (s:={ s with toks:=s.toks + 1 }) ho hd (x:=rawInt (i : Int)) rfl ?_)
 show wpAny _ _ (setField (.ref it) 1 (rawInt ((i : Int) - 1)) >>= _) _ _ _
 refine wpAny_bind (wpAny_setField (s:={ s with toks:=s.toks + 1 }) ho hd (by simp) (wpAny_pure ⟨x,rfl,wpAny_pure (hQ _ ?_ (Heap.SameBut.update ..))⟩))
 exact ⟨_,Heap.get?_update_self _ ho (Obj.isFreed_of_fields (Obj.data_mapFields hd _)),(Obj.cls_mapFields ..).trans hc,by rw [Obj.data_mapFields hd]; simp⟩
theorem zbS {it l : Addr} {Q : Option Value → Shared → Prop} (hh : A.handled = none) (hit : s.heap.IsRvd it l (-1)) (hQ : ∀ h',Heap.ExtBut it s.heap h' → Q none { s with heap:=h' }) : wpAny (model prog w) A (pyNext (.ref it)) Q E s:=by
 obtain ⟨o,ho,hc,hd⟩:=id hit; unfold pyNext
 refine wpAny_bind (wpAny_attempt (wpAny_callSpecial?_slot (name:=Str.ofString "__next__") hit.typeIs F.slot_rvd_next
  (wpAny_call_entry F.slot_rvd_next hit.typeIs F.entry_rvd_next ?_ (F.args_rvd_next_1 _))))
 unfold Builtin.«reversed.__next__»
 refine wpAny_bind (wpAny_of_eq (a:=(Value.ref it,[])) rfl ?_); try dsimp only
 refine wpAny_bind (wpAny_field ho hd (x:=.ref l) rfl ?_); refine wpAny_bind (wpAny_field ho hd (x:=rawInt (-1)) rfl ?_)
 show wpAny _ _ (if (-1 : Int) < 0 then _ else _) _ _ s; rw [if_pos (by decide)]
 refine wpAny_bind (wpAny_rule ?_)
 refine wpAny_bind (wpAny_bind (m:=setField (.ref it) 1 (rawInt (-1))) (wpAny_setField ho hd (by simp) ?_))
 have hd2:=Obj.data_mapFields hd (·.setIfInBounds 1 (rawInt (-1)))
 have ho2:=Heap.get?_update_self (Obj.mapFields (·.setIfInBounds 1 (rawInt (-1)))) ho (Obj.isFreed_of_fields hd2)
 refine wpAny_setField ho2 hd2 (by simp) ?_
 try dsimp only
 refine wpAny_bind ?_; show wpAny _ _ (newExc (.type "StopIteration") [] >>= _) _ _ _
 refine wpAny_bind ?_
 simp only [newExc,newTuple]
 refine wpAny_bind (wpAny_newObj_type ?_ (by size_fits)); refine wpAny_bind (m:=firstArgMember _ _) (wpAny_of_eq (a:=Value.none) (by first | rfl | (simp only [firstArgMember]; rfl)) ?_)
 refine wpAny_newObj_type ?_ (by size_fits); simp only [raiseNew]
 refine wpAny_bind (wpAny_handled ?_); first | rw [show A.in1.handled = none from hh] | rw [hh]
 refine wpAny_bind (wpAny_pure (wpAny_throw ?_)); refine wpAny_bind (wpAny_isInstance (T:="StopIteration") (b:=true) ⟨_,Heap.get?_push_size _ rfl,rfl⟩ isSubtype_stop ?_)
 exact wpAny_pure (hQ _ ((((Heap.SameBut.update ..).extBut.trans (Heap.SameBut.update ..).extBut).push _).push _))
theorem zbt {it l : Addr} {i : Int} {Q : Value → Shared → Prop} (hit : s.heap.IsRvd it l i) (h : Q (.ref it) s) : wpAny (model prog w) A (pyIter (.ref it)) Q E s:=by
 refine wpAny_pyIter_slot hit.typeIs F.slot_rvd_iter (wpAny_call_entry F.slot_rvd_iter hit.typeIs F.entry_rvd_iter ?_ (F.args_rvd_iter_1 _))
 show wpAny _ _ (ret (.ref it)) _ _ s; exact wpAny_pure ⟨_,rfl,"reversed",_,hit.typeIs,F.slot_rvd_next.lookup,h⟩
end
end PySem
namespace PySem
section
variable {prog : Program} {w : World} {A : Around} {E : Value → Shared → Prop} {s : Shared}
theorem zfk {it t : Addr} {i : Nat} {items : Array Value} {x : Value} {Q : Value → Shared → Prop} (hit : s.heap.IsTupleIter it t i) (ht : s.heap.IsTuple t items) (hx : items[i]? = some x)
  (hQ : ∀ h',h'.IsTupleIter it t (i + 1) → Heap.SameBut it s.heap h' → Q x { s with heap:=h' }) : wpAny (model prog w) A (Builtin.SmallTypes.nextOf (.ref it)) Q E s:=by
 obtain ⟨o,ho,hc,hd⟩:=id hit; obtain ⟨ot,hot,_,nt,hdt⟩:=ht
 unfold Builtin.SmallTypes.nextOf; refine wpAny_bind (wpAny_callSpecial?_slot (name:=Str.ofString "__next__") hit.typeIs F.slot_tuple_iterator_next (wpAny_call_entry F.slot_tuple_iterator_next hit.typeIs F.entry_tuple_iterator_next ?_ (F.args_tuple_iterator_next_1 _)))
 show wpAny _ _ (field (.ref it) 0 >>= _) _ _ s; refine wpAny_bind (wpAny_field ho hd (x:=.ref t) rfl ?_); show wpAny _ _ (if (Value.ref t == Value.none) = true then _ else _) _ _ _; rw [if_neg (by exact Bool.false_ne_true)]
 refine wpAny_bind (wpAny_field ho hd (x:=.int _ 0) rfl ?_); refine wpAny_bind (m:=seqItems? _) (wpAny_seqItems hot hdt ?_); simp only [Int.toNat_natCast,hx]
 have hn:=Heap.get?_update_self (Obj.mapFields (·.setIfInBounds 1 (rawInt ((i + 1 : Nat) : Int)))) ho (Obj.isFreed_of_fields (Obj.data_mapFields hd _))
 refine wpAny_bind (wpAny_setField ho hd (by simp) (wpAny_pure ⟨x,rfl,wpAny_pure (hQ _ ⟨_,hn,(Obj.cls_mapFields ..).trans hc,?_⟩ (Heap.SameBut.update ..))⟩)); rw [Obj.data_mapFields hd]; simp [rawInt]
theorem zfl {it t : Addr} {i : Nat} {items : Array Value} {Q : Value → Shared → Prop} (hh : A.handled = none) (hit : s.heap.IsTupleIter it t i) (ht : s.heap.IsTuple t items) (hx : items[i]? = none)
  (hE : ∀ h' e,Heap.ExtBut it s.heap h' → (∃ o,h'.get? e = some o ∧ o.cls = .type "StopIteration") → E (.ref e) { s with heap:=h' }) : wpAny (model prog w) A (Builtin.SmallTypes.nextOf (.ref it)) Q E s:=by
 obtain ⟨o,ho,hc,hd⟩:=id hit; obtain ⟨ot,hot,_,nt,hdt⟩:=ht
 unfold Builtin.SmallTypes.nextOf; refine wpAny_bind (wpAny_callSpecial?_slot (name:=Str.ofString "__next__") hit.typeIs F.slot_tuple_iterator_next (wpAny_call_entry F.slot_tuple_iterator_next hit.typeIs F.entry_tuple_iterator_next ?_ (F.args_tuple_iterator_next_1 _)))
 show wpAny _ _ (field (.ref it) 0 >>= _) _ _ s; refine wpAny_bind (wpAny_field ho hd (x:=.ref t) rfl ?_); show wpAny _ _ (if (Value.ref t == Value.none) = true then _ else _) _ _ _; rw [if_neg (by exact Bool.false_ne_true)]
 refine wpAny_bind (wpAny_field ho hd (x:=.int _ 0) rfl ?_); refine wpAny_bind (m:=seqItems? _) (wpAny_seqItems hot hdt ?_); simp only [Int.toNat_natCast,hx]
 refine wpAny_bind (wpAny_rule (wpAny_bind (wpAny_setField ho hd (by simp) ?_))); show wpAny _ _ (newExc (.type "StopIteration") [] >>= _) _ _ _; refine wpAny_bind ?_
 simp only [newExc,newTuple]; refine wpAny_bind (wpAny_newObj_type ?_ (by size_fits)); refine wpAny_bind (m:=firstArgMember _ _) (wpAny_of_eq (a:=Value.none) (by first | rfl | (simp only [firstArgMember]; rfl)) ?_)
 refine wpAny_newObj_type ?_ (by size_fits); simp only [raiseNew]; refine wpAny_bind (wpAny_handled ?_); first | rw [show A.in1.handled = none from hh] | rw [hh]
 refine wpAny_bind (wpAny_pure (wpAny_throw ?_)); exact hE _ _ (((Heap.SameBut.update ..).extBut.push _).push _) ⟨_,Heap.get?_push_size _ rfl,rfl⟩
end
theorem Draws.tuple {prog : Program} {w : World} {A : Around} (hh : A.handled = none) (it t : Addr) (hne : t ≠ it) (items : Array Value) : Draws prog w A it [it,t] items.size (fun i v => items[i]? = some v) (fun i h => h.IsTupleIter it t i ∧ h.IsTuple t items) where
 live:=fun i h st => st.1.imp fun o r => r.1
 frame:=fun i h h' st kk => ⟨st.1.at fun o => kk it (by simp) o,st.2.at fun o => kk t (by simp) o⟩
 item:=fun i s Q E hi st hQ => zfk st.1 st.2 (x:=items[i]) (by simp [hi]) fun h' a b => hQ _ h' s.toks (by simp [hi]) ⟨a,st.2.extBut b.extBut hne⟩ b
 done:=fun s Q E st hE => zfl hh st.1 st.2 (by simp) hE
def zbL (t : Addr) : Obj:={ cls:=.type "tuple_iterator",data:=.fields #[.ref t,.int 0 0] }
def ziA (it : Addr) : Obj:={ cls:=.type "enumerate",data:=.fields #[.none,.bool false,.ref it,rawInt 0,.none,.none] }
end PySem
namespace L2
open PySem PySem.Spec PyProof.Rows
theorem zhy {P : Program} {w : World} {K : PySem.W.Frag} {tg : Expr} (a it : Addr) (n : Nat) : Turn P w K tg (zfj (SqT K) a n) [it] it (fun i h => i ≤ n ∧ h.IsRvd it a ((n : Int) - 1 - (i : Int))) where
 mem:=by simp
 obj:=fun i h st b hb => by
  have z : b = it:=by simpa using hb
  subst z
  obtain ⟨_,o,e,c,d⟩:=st
  exact ⟨o,e,fun v z => by rw [d] at z; cases z⟩
 keep:=fun i h h' st k => ⟨st.1,st.2.at fun o e => k it (by simp) o e⟩
 item:=by
  intro X hP hw hK hc i pins s σ H E I hf st hg
  subst hP hw hK
  obtain ⟨hin,xs,hq,hl⟩:=hg
  obtain ⟨its,rv,p,hz⟩:=I.tuple hq
  have hlen:=rv.length
  have hsl:=sizeLine_eq
  obtain ⟨x,hx⟩ : ∃ x,xs[n - 1 - i]? = some x:=⟨xs[n - 1 - i]'(by omega),by simp⟩
  obtain ⟨u,hu,ru⟩:=rv.get hx
  obtain ⟨f0,f1,f2,f3,f4,f5⟩:=hf it (by simp)
  have e : (n : Int) - 1 - (i : Int) = ((n - 1 - i : Nat) : Int):=by omega
  have hit:=st.2
  rw [e] at hit
  refine zbN hit p (x:=u) (by simpa using hu) (by omega) fun h' st' sb => ?_
  have I1 : Inv X pins σ H { s with heap:=h',toks:=s.toks + 1 }:=I.turned (t':=s.toks + 1) (fun b o hb e => (sb.2 b hb).trans e) f0 f1 f3 f4 f5
  have e2 : ((n - 1 - i : Nat) : Int) - 1 = (n : Int) - 1 - ((i + 1 : Nat) : Int):=by omega
  rw [e2] at st'
  obtain ⟨o,eo,c,d⟩:=id st'
  exact ⟨u,rfl,zd4 (s:={ s with heap:=h',toks:=s.toks + 1 }) eo c d (by decide) ⟨x,H,I1,ru,⟨rfl,fun ys hy => by rw [I.tuple_inj hy hq]; exact hx⟩,⟨hin,st'⟩,fun b hb => (hf b hb).1⟩⟩
 done:=by
  intro X hP hw hK hc i pins s σ H E I hf st hg
  subst hP hw hK
  obtain ⟨f0,f1,f2,f3,f4,f5⟩:=hf it (by simp)
  have hin : n ≤ i:=hg
  have e : (n : Int) - 1 - (i : Int) = -1:=by have:=st.1; omega
  have hit:=st.2
  rw [e] at hit
  exact zbS (I.ok.hd hc) hit fun h' eb => ⟨rfl,I.turned (t':=s.toks) (fun b o hb e => eb b o hb e) f0 f1 f3 f4 f5⟩
 self:=fun _ _ _ _ _ st h => zbt st.2 h
theorem zeK {X : Cx} {tg : Expr} {pins : List (Addr × Obj)} {σ : St} {H1 : Hp} {s1 : Shared} {R : It → Hp → Prop} {l : Addr} {xs : List V} (I1 : Inv X pins σ H1 s1) (hq : SqT X.K H1 l xs) (q : R (zfj (SqT X.K) l xs.length) H1) :
  wpAny (model X.prog X.w) X.A (call (.type "reversed") [.ref l]) (fun v s2 => wpAny (model X.prog X.w) X.A (pyIter v) (PIE X pins σ tg R) X.xe s2) X.xe s1:=by
 obtain ⟨its,rv,pl,hz⟩:=I1.tuple hq
 have hlen:=rv.length
 have hsl:=sizeLine_eq
 refine zdt pl (by rw [List.size_toArray]; omega) ?_
 have I2 : Inv X pins σ H1 { s1 with heap:=s1.heap.push (zeJ l ((its.toArray.size : Int) - 1)),toks:=s1.toks + 1 + 1 }:=I1.kept fun b o e => Heap.get?_push_of_some _ e
 have hr : (s1.heap.push (zeJ l ((its.toArray.size : Int) - 1))).IsRvd s1.heap.objs.size l ((xs.length : Int) - 1 - ((0 : Nat) : Int)):=by
  refine ⟨_,Heap.get?_push_size _ rfl,rfl,?_⟩
  have e1 : (its.toArray.size : Int) - 1 = (xs.length : Int) - 1 - ((0 : Nat) : Int):=by rw [List.size_toArray,hlen]; omega
  show Data.fields #[.ref l,rawInt ((its.toArray.size : Int) - 1)] = _
  rw [e1]
 refine zbt hr ?_
 refine ⟨_,[s1.heap.objs.size],_,zfj (SqT X.K) l xs.length,H1,rfl,I2,zhy l s1.heap.objs.size xs.length,⟨Nat.zero_le _,hr⟩,fun b hb => ?_,q⟩
 have z : b = s1.heap.objs.size:=by simpa using hb
 subst z
 exact I1.fpOk (Nat.le_refl _) (I1.hok.fresh (Nat.le_refl _))
theorem zfm {X : Cx} {tg : Expr} {pins : List (Addr × Obj)} {σ : St} {H1 : Hp} {s1 : Shared} {R : It → Hp → Prop} {l : Addr} {xs : List V} (I1 : Inv X pins σ H1 s1) (hq : SqL X.K H1 l xs) (q : R (zfj (SqL X.K) l xs.length) H1) :
  wpAny (model X.prog X.w) X.A (call (.type "reversed") [.ref l]) (fun v s2 => wpAny (model X.prog X.w) X.A (pyIter v) (PIE X pins σ tg R) X.xe s2) X.xe s1:=by
 obtain ⟨its,rv,pl,hz⟩:=I1.list hq
 have hlen:=rv.length
 refine call_reversed_list pl.isList ?_
 have I2 : Inv X pins σ H1 { s1 with heap:=s1.heap.push (revObj l ((its.toArray.size : Int) - 1)) }:=I1.kept (t':=s1.toks) fun b o e => Heap.get?_push_of_some _ e
 have hr : (s1.heap.push (revObj l ((its.toArray.size : Int) - 1))).IsRevIter s1.heap.objs.size l ((xs.length : Int) - 1 - ((0 : Nat) : Int)):=by
  refine ⟨_,Heap.get?_push_size _ rfl,rfl,?_⟩
  have e1 : (its.toArray.size : Int) - 1 = (xs.length : Int) - 1 - ((0 : Nat) : Int):=by rw [List.size_toArray,hlen]; omega
  show Data.fields #[.ref l,rawInt ((its.toArray.size : Int) - 1)] = _
  rw [e1]
 refine wpAny_pyIter_revIter hr ?_
 refine ⟨_,[s1.heap.objs.size],_,zfj (SqL X.K) l xs.length,H1,rfl,I2,zhx l s1.heap.objs.size xs.length,⟨Nat.zero_le _,hr⟩,fun b hb => ?_,q⟩
 have z : b = s1.heap.objs.size:=by simpa using hb
 subst z
 exact I1.fpOk (Nat.le_refl _) (I1.hok.fresh (Nat.le_refl _))
def zmi (K : PySem.W.Frag) (ta : TA) : TI:=fun σ H R => ta σ H fun vs H1 => ∃ a xs,vs = [.ref a] ∧ ((SqL K H1 a xs ∧ R (zfj (SqL K) a xs.length) H1) ∨ (SqT K H1 a xs ∧ R (zfj (SqT K) a xs.length) H1))
theorem zkY {X : Cx} {tg : Expr} {p pos : Pos} {a : Expr} {ta : TA} (hg : Gl X "reversed") (hm : X.mg "reversed" = none) (ha : PA X [a] ta) (hs : starEach [a] X.env = [(false,eval a X.env)]:=by rfl) :
  PI X tg (.Call (.Name "reversed" p) [a] [] pos) (zmi X.K ta):=by
 intro pins s σ H R I h
 refine Call_ (zbm I hg hm boot_reversed (PyProof.Rows.callWith_type1 (thn (ha pos pins s σ H _ I h) fun us s1 ⟨vs,H1,I1,r1,q1⟩ => ?_) hs rfl))
 obtain ⟨l,xs,e,hq⟩:=q1
 subst e
 cases r1 with
 | cons r rr =>
  cases rr
  cases r
  rcases hq with ⟨hq,q⟩ | ⟨hq,q⟩
  ·exact zfm I1 hq q
  ·exact zeK I1 hq q
end L2
end
section
set_option maxHeartbeats 3999000
namespace L2
open PySem PySem.Spec PyProof.Rows
inductive EqD (K : PySem.W.Frag) (H : Hp) : Nat → V → V → Bool → Prop where
 | flat {d : Nat} {x y : V} (hx : zed x = true) (hy : zed y = true) : EqD K H d x y (eqV x y)
 | same {d : Nat} {a : Addr} : EqD K H d (.ref a) (.ref a) true
 | lists {d : Nat} {a b : Addr} {xs ys : List V} {e : Nat → Bool} (hne : a ≠ b) (ha : SqL K H a xs) (hb : SqL K H b ys) (hl : xs.length = ys.length)
   (he : ∀ (j : Nat) x y,xs[j]? = some x → ys[j]? = some y → EqD K H d x y (e j)) : EqD K H (d + 1) (.ref a) (.ref b) ((List.range xs.length).all e)
 | lens {d : Nat} {a b : Addr} {xs ys : List V} (hne : a ≠ b) (ha : SqL K H a xs) (hb : SqL K H b ys) (hl : xs.length ≠ ys.length) : EqD K H (d + 1) (.ref a) (.ref b) false
 | tups {d : Nat} {a b : Addr} {xs ys : List V} {e : Nat → Bool} (hne : a ≠ b) (ha : SqT K H a xs) (hb : SqT K H b ys)
   (he : ∀ (j : Nat) x y,xs[j]? = some x → ys[j]? = some y → EqD K H d x y (e j)) : EqD K H (d + 1) (.ref a) (.ref b) ((List.range (min xs.length ys.length)).all e && xs.length == ys.length)
theorem zA.getE {xs : List V} {us : List Value} (r : zA xs us) {j : Nat} (h : j < us.toArray.size) : ∃ x,xs[j]? = some x ∧ RelV x us.toArray[j]:=by
 have hl:=r.length
 have hj : j < xs.length:=by rw [hl]; simpa using h
 obtain ⟨u,hu,ru⟩:=r.get (i:=j) (x:=xs[j]) (by simp)
 refine ⟨xs[j],by simp,?_⟩
 have : us.toArray[j] = u:=by
  have h2 : j < us.length:=by simpa using h
  rw [List.getElem?_eq_getElem h2] at hu
  simpa using Option.some.inj hu
 rw [this]
 exact ru
theorem EqD.at {X : Cx} {pins : List (Addr × Obj)} {σ : St} {H : Hp} {s : Shared} (I : Inv X pins σ H s) {d : Nat} {x y : V} {b : Bool} (h : EqD X.K H d x y b) :
  ∀ (A : Around) (u v : Value),RelV x u → RelV y v → A.units + d < cLine → SeqAt.EqAt A s u v b:=by
 induction h with
 | flat hx hy => exact fun A u v rx ry _ => zkT rx ry hx hy
 | same => intro A u v rx ry _; cases rx; cases ry; exact SeqAt.EqAt.same _
 | lists hne ha hb hl he ih =>
  intro A u v rx ry hu
  cases rx; cases ry
  obtain ⟨is1,r1,p1,_⟩:=I.list ha
  obtain ⟨is2,r2,p2,_⟩:=I.list hb
  have l1:=r1.length
  have l2:=r2.length
  refine SeqAt.EqAt.of_refs hne ?_
  have q:=SeqAt.RcAt.lists (A:=A) p1.isList p2.isList (by simp only [List.size_toArray]; omega) (by omega) fun j h1 h2 => by
   obtain ⟨x,hx,rx⟩:=r1.getE h1
   obtain ⟨y,hy,ry⟩:=r2.getE h2
   exact ih j x y hx hy A.in1 _ _ rx ry (by simp only [Around.in1_units]; omega)
  rw [List.size_toArray,← l1] at q
  exact q
 | lens hne ha hb hl =>
  intro A u v rx ry hu
  cases rx; cases ry
  obtain ⟨is1,r1,p1,_⟩:=I.list ha
  obtain ⟨is2,r2,p2,_⟩:=I.list hb
  have l1:=r1.length
  have l2:=r2.length
  exact SeqAt.EqAt.of_refs hne (SeqAt.RcAt.lists_lengths p1.isList p2.isList (by simp only [List.size_toArray,bne_iff_ne]; omega) (by omega))
 | tups hne ha hb he ih =>
  intro A u v rx ry hu
  cases rx; cases ry
  obtain ⟨is1,r1,p1,_⟩:=I.tuple ha
  obtain ⟨is2,r2,p2,_⟩:=I.tuple hb
  have l1:=r1.length
  have l2:=r2.length
  refine SeqAt.EqAt.of_refs hne ?_
  have q:=SeqAt.RcAt.tuples (A:=A) (s:=s) p1 p2 (by omega) fun j h1 h2 => by
   obtain ⟨x,hx,rx⟩:=r1.getE h1
   obtain ⟨y,hy,ry⟩:=r2.getE h2
   exact ih j x y hx hy A.in1 _ _ rx ry (by simp only [Around.in1_units]; omega)
  rw [List.size_toArray,List.size_toArray,← l1,← l2] at q
  exact q
def zlR (K : PySem.W.Frag) (neg : Bool) : R2:=fun x y H Q => ∃ a b xs ys,x = .ref a ∧ y = .ref b ∧ ((SqL K H a xs ∧ SqL K H b ys) ∨ (SqT K H a xs ∧ SqT K H b ys)) ∧
 ((xs.length ≠ ys.length ∧ (∀ (j : Nat) x y,xs[j]? = some x → ys[j]? = some y → ∃ c,EqD K H 8 x y c) ∧ Q (.bl neg) H) ∨
  (xs.length = ys.length ∧ ∃ e : Nat → Bool,(∀ (j : Nat) x y,xs[j]? = some x → ys[j]? = some y → EqD K H 8 x y (e j)) ∧ Q (.bl (if neg then !(List.range xs.length).all e else (List.range xs.length).all e)) H))
theorem ziB {X : Cx} (hu : X.A.units + 20 < cLine) : OpR X (compareOp .NotEq) (zlR X.K true):=by
 intro pins s σ H x y v u Q I rx ry h
 obtain ⟨a,b,xs,ys,rfl,rfl,hk,h⟩:=h
 cases rx; cases ry
 rcases hk with ⟨ha,hb⟩ | ⟨ha,hb⟩
 ·obtain ⟨is1,r1,p1,_⟩:=I.list ha
  obtain ⟨is2,r2,p2,_⟩:=I.list hb
  have l1:=r1.length
  have l2:=r2.length
  rcases h with ⟨hl,_,q⟩ | ⟨hl,e,he,q⟩
  ·exact SeqAt.RcNeAt.lists_lengths p1.isList p2.isList (by simp only [List.size_toArray,bne_iff_ne]; omega) (by omega) _ _ _ _ ⟨.bl true,H,I,rfl,q⟩
  ·refine SeqAt.RcNeAt.lists p1.isList p2.isList (e:=e) (by simp only [List.size_toArray]; omega) (by omega) (fun j h1 h2 => ?_) _ _ _ _ ⟨.bl _,H,I,rfl,?_⟩
   ·obtain ⟨x,hx,rx⟩:=r1.getE h1
    obtain ⟨y,hy,ry⟩:=r2.getE h2
    exact (he j x y hx hy).at I _ _ _ rx ry (by simp only [Around.in1_units]; omega)
   ·rw [List.size_toArray,← l1]
    exact q
 ·obtain ⟨is1,r1,p1,_⟩:=I.tuple ha
  obtain ⟨is2,r2,p2,_⟩:=I.tuple hb
  have l1:=r1.length
  have l2:=r2.length
  rcases h with ⟨hl,he,q⟩ | ⟨hl,e,he,q⟩
  ·have he' : ∀ j : Nat,∃ c : Bool,∀ x y,xs[j]? = some x → ys[j]? = some y → EqD X.K H 8 x y c:=fun j => by
    cases hx : xs[j]? with
    | none => exact ⟨true,fun x y z => by cases z⟩
    | some x =>
     cases hy : ys[j]? with
     | none => exact ⟨true,fun x y _ z => by cases z⟩
     | some y =>
      obtain ⟨c,hc⟩:=he j x y hx hy
      exact ⟨c,fun x' y' z1 z2 => by cases z1; cases z2; exact hc⟩
   obtain ⟨e,he''⟩:=Classical.axiomOfChoice he'
   refine SeqAt.RcNeAt.tuples (s:=s) p1 p2 (e:=e) (by omega) (fun j h1 h2 => ?_) _ _ _ _ ⟨.bl _,H,I,rfl,?_⟩
   ·obtain ⟨x,hx,rx⟩:=r1.getE h1
    obtain ⟨y,hy,ry⟩:=r2.getE h2
    exact (he'' j x y hx hy).at I _ _ _ rx ry (by simp only [Around.in1_units]; omega)
   ·have hb' : (is1.toArray.size == is2.toArray.size) = false:=by
     rw [List.size_toArray,List.size_toArray]; exact beq_eq_false_iff_ne.mpr (by omega)
    rw [hb',Bool.and_false]
    exact q
  ·refine SeqAt.RcNeAt.tuples (s:=s) p1 p2 (e:=e) (by omega) (fun j h1 h2 => ?_) _ _ _ _ ⟨.bl _,H,I,rfl,?_⟩
   ·obtain ⟨x,hx,rx⟩:=r1.getE h1
    obtain ⟨y,hy,ry⟩:=r2.getE h2
    exact (he j x y hx hy).at I _ _ _ rx ry (by simp only [Around.in1_units]; omega)
   ·have hb' : (is1.toArray.size == is2.toArray.size) = true:=by
     rw [List.size_toArray,List.size_toArray]; exact beq_iff_eq.mpr (by omega)
    have hmin : min is1.toArray.size is2.toArray.size = xs.length:=by rw [List.size_toArray,List.size_toArray]; omega
    rw [hb',Bool.and_true,hmin]
    exact q
theorem zbT {X : Cx} : zbh X (.builtin "isinstance") (fun xs H Q => ∃ x t n b,xs = [x,.ty n] ∧ TyOf X.K H x t ∧ PySem.W.kitOne X.K t (.type n) = some b ∧ Q (.bl b) H):=by
 intro pins s σ H xs us Q I r h
 obtain ⟨x,t,n,b,rfl,ty,hk,q⟩:=h
 obtain ⟨u,u',rfl,rx,r2⟩:=vals2 r
 cases r2
 exact zhr I rx ty hk fun tk => ⟨.bl b,H,I.tok tk,rfl,q⟩
theorem zfn {X : Cx} : zbh X (.type "range") (fun xs H Q => ∃ j : Int,xs = [.int j] ∧ ∀ l,H l = none → Q (.ref l) (upd H l (.rng 0 j))):=by
 intro pins s σ H xs us Q I r h
 obtain ⟨j,rfl,q⟩:=h
 obtain ⟨u,rfl,t,rfl⟩:=vals1 r
 refine call_range_1 ?_
 exact ⟨.ref s.heap.objs.size,_,I.laid (o:=.rng 0 j) (fun b o e => Heap.get?_push_of_some _ e) (Nat.le_refl _) ⟨_,_,_,Heap.get?_push_size _ rfl⟩,rfl,q _ I.fresh⟩
def zbp (lo : Int) (n : Nat) : List Int:=(List.range n).map fun (i : Nat) => lo + (i : Int)
theorem zcd (lo : Int) (n : Nat) : (zbp lo n).length = n:=by simp [zbp]
theorem zdY {acc : Array Value} {lo : Int} {n : Nat} (h : ItemsOf (fun i v => ∃ t,v = .int (lo + (i : Nat) * 1) t) acc n) : zA ((zbp lo n).map V.int) acc.toList:=by
 obtain ⟨hsz,hv⟩:=h
 have go : ∀ (us : List Value) (k : Nat),(∀ (j : Nat) v,us[j]? = some v → ∃ t,v = .int (lo + ((k + j : Nat) : Int)) t) → zA (((List.range us.length).map fun (i : Nat) => V.int (lo + ((k + i : Nat) : Int)))) us:=by
  intro us
  induction us with
  | nil => intro k _; exact .nil
  | cons u us ih =>
   intro k hu
   rw [List.length_cons,List.range_succ_eq_map,List.map_cons,List.map_map]
   refine .cons ?_ ?_
   ·obtain ⟨t,e⟩:=hu 0 u rfl
    exact ⟨t,e⟩
   ·have:=ih (k + 1) fun j v e => by
     obtain ⟨t,z⟩:=hu (j + 1) v (by simpa using e)
     exact ⟨t,by rw [z]; congr 1; omega⟩
    have e2 : (fun (i : Nat) => V.int (lo + ((k + 1 + i : Nat) : Int))) = ((fun (i : Nat) => V.int (lo + ((k + i : Nat) : Int))) ∘ Nat.succ):=by
     funext i
     show V.int _ = V.int _
     congr 2
     show ((k + 1 + i : Nat) : Int) = ((k + (i + 1) : Nat) : Int)
     omega
    rw [← e2]
    exact this
 have h1:=go acc.toList 0 fun j v e => by
  obtain ⟨t,z⟩:=hv j v (by simpa using e)
  exact ⟨t,by rw [z]; simp⟩
 have e1 : acc.toList.length = n:=by simpa using hsz
 rw [e1] at h1
 unfold zbp
 rw [List.map_map]
 have e2 : (V.int ∘ fun (i : Nat) => lo + (i : Int)) = fun (i : Nat) => V.int (lo + ((0 + i : Nat) : Int)):=by
  funext i
  show V.int (lo + (i : Int)) = V.int (lo + ((0 + i : Nat) : Int))
  rw [Nat.zero_add]
 rw [e2]
 exact h1
theorem zdZ {X : Cx} (hc : X.calm = true) : zbh X (.type "list") (fun xs H Q => ∃ p hi,xs = [.ref p] ∧ H p = some (.rng 0 hi) ∧ 0 ≤ hi ∧ hi ≤ 1000 ∧ ∀ l,H l = none → Q (.ref l) (upd H l (.lst ((zbp 0 hi.toNat).map V.int)))):=by
 intro pins s σ H xs us Q I r h
 obtain ⟨p,hi,rfl,hp,h0,h1,q⟩:=h
 obtain ⟨u,rfl,rx⟩:=vals1 r
 cases rx
 obtain ⟨t,u',v,e⟩:=(show zR X.prog X.w H s.heap p (.rng 0 hi) from I.hok p _ hp)
 have hsl:=sizeLine_eq
 refine call_list_range (n:=hi.toNat) (I.ok.hd hc) (show IsRange s.heap p 0 hi 1 t u' v from e) (small_one (by omega) (by omega) (by omega) (by omega)) (by rw [rangeSize_one]; split <;> omega) (by omega) fun h' tk acc' c' kk ho hacc => ?_
 have hv:=zdY (lo:=0) (n:=hi.toNat) hacc
 refine ⟨.ref s.heap.objs.size,_,I.laid kk (Nat.le_refl _) ?_,rfl,q _ I.fresh⟩
 exact ⟨by rw [List.length_map,zcd]; omega,acc'.toList,c',hv,by simpa using ho⟩
end L2
namespace L2
open PySem PySem.Spec PyProof.Rows
def zmj (K : PySem.W.Frag) (tl : TE) : TI:=fun σ H R => tl σ H fun x H1 => ∃ a,x = .ref a ∧ (((∃ xs,SqL K H1 a xs) ∧ R (Itl K a) H1) ∨ ((∃ xs,SqT K H1 a xs) ∧ R (Itt K a) H1))
theorem zkZ {X : Cx} {tg l : Expr} {tl : TE} (hl : PE X l tl) : PI X tg l (zmj X.K tl):=by
 intro pins s σ H R I h
 refine thn (hl pins s σ H _ I h) fun v s1 ⟨x,H1,I1,r1,q1⟩ => ?_
 obtain ⟨a,e,q⟩:=q1
 subst e
 cases r1
 rcases q with ⟨⟨xs,hq⟩,q⟩ | ⟨⟨xs,hq⟩,q⟩
 ·obtain ⟨its,rv,p,hz⟩:=I1.list hq
  refine wpAny_pyIter_list p.isList ?_
  refine ⟨s1.heap.objs.size,[s1.heap.objs.size],_,_,H1,rfl,I1.kept (t':=s1.toks) fun b o e => Heap.get?_push_of_some _ e,zd5 a _,⟨_,Heap.get?_push_size _ rfl,rfl,rfl⟩,fun b hb => ?_,q⟩
  have e : b = s1.heap.objs.size:=by simpa using hb
  subst e
  exact I1.fpOk (Nat.le_refl _) (I1.hok.fresh (Nat.le_refl _))
 ·obtain ⟨its,rv,p,hz⟩:=I1.tuple hq
  refine wpAny_pyIter_tuple (show s1.heap.IsTuple a its.toArray from p) ?_
  refine ⟨s1.heap.objs.size,[s1.heap.objs.size],_,_,H1,rfl,I1.kept (t':=s1.toks) fun b o e => Heap.get?_push_of_some _ e,zgc a _,⟨_,Heap.get?_push_size _ rfl,rfl,rfl⟩,fun b hb => ?_,q⟩
  have e : b = s1.heap.objs.size:=by simpa using hb
  subst e
  exact I1.fpOk (Nat.le_refl _) (I1.hok.fresh (Nat.le_refl _))
end L2
namespace L2
open PySem PySem.Spec PyProof.Rows
def intsOf : List Expr → Option (List Int)
 | [] => some []
 | .Constant (.int i) _ _ :: r => (intsOf r).map (i :: ·)
 | _ => none
def zej (ns : List Int) : TA:=fun _ H Q => Q (ns.map V.int) H
theorem ziC {X : Cx} : ∀ (es : List Expr) (ns : List Int),intsOf es = some ns → PA X es (zej ns):=by
 intro es
 induction es with
 | nil =>
  intro ns h
  have e : ns = []:=(Option.some.inj h).symm
  subst e
  exact zg
 | cons e r ih =>
  intro ns h
  unfold intsOf at h
  split at h
  ·rename_i heq
   cases heq
  ·rename_i i j p r' heq
   injection heq with e1 e2
   subst e1 e2
   cases hr : intsOf r with
   | none => rw [hr] at h; cases h
   | some ms =>
    rw [hr] at h
    have e : i :: ms = ns:=Option.some.inj h
    subst e
    exact za zh (ih ms hr)
  ·cases h
theorem zjM {X : Cx} {es : List Expr} {ns : List Int} (h : intsOf es = some ns) : PA X es (zej ns):=ziC es ns h
end L2
namespace L2
open PySem PySem.Spec PyProof.Rows
theorem zce {X : Cx} {i : Int} {j : Nat} {p : Pos} {es : List Expr} {t : TA} (hr : PA X es t) : PA X (.Constant (.int i) j p :: es) (zgK (tC (.int i)) t):=za zh hr
end L2
namespace L2
open PySem PySem.Spec PyProof.Rows
theorem ziD {X : Cx} {i : Nat} {x : Str} {pos' pos2 spos : Pos} {rest : List Stmt} {u : TS} {es : List Expr} {ns : List Int} (h : intsOf es = some ns) (hN : X.N.Nodup) (hi : X.N[i]? = some x) (hx : Loc X.env.scope x)
  (hf : X.fn x = true ∨ X.env.scope.names.lookup x = some .local) (hr : PSs X rest u) : PSs X (.Assign [.Name x pos'] (.List es pos2) spos :: rest) (zkK (zdU (zge (zej ns)) (zaz i)) u):=by
 have h1 : PE X (.List es pos2) (zge (zej ns)):=@zL X es (zej ns) pos2 (@zjM X es ns h)
 have h2 : PS X (.Assign [.Name x pos'] (.List es pos2) spos) (zdU (zge (zej ns)) (zaz i)):=zn hN hi hx h1 (by rfl) hf
 exact zf h2 hr
end L2
namespace L2
open PySem PySem.Spec PyProof.Rows
section
variable {X : Cx} {K : PySem.W.Frag}
theorem zbc (hK : X.K = K) : IxR X (zlM K):=by subst hK; exact zI
theorem zeL (hK : X.K = K) : IxR X (zlN K):=by subst hK; exact za6
theorem ziE (hK : X.K = K) : SlR X (zlP K):=by subst hK; exact zdb
def zlS (K : PySem.W.Frag) : List V → Hp → VK → Prop:=fun xs H Q => ∃ p ys,xs = [.ref p] ∧ (SqL K H p ys ∨ SqT K H p ys) ∧ Q (.int ys.length) H
theorem zan (hK : X.K = K) : zbh X (.builtin "len") (zlS K):=by subst hK; exact zB
theorem zaO {es : List Expr} {k : Nat} {t : TGs} {n : Nat} {pos : Pos} (hK : X.K = K) (hc : X.calm = true) (h : PGs X es t)
  (hn : (assignEach es X.env).length = n:=by rfl) (hst : (assignEach es X.env).findIdx? (·.1) = none:=by rfl) : PG X (.Tuple es k pos) (zgb K n t):=by subst hK; exact zbA hc h hn hst
theorem zk0 {o e : Expr} {es : List Expr} {to : TE} {t : TA} {name : Str} {apos cpos : Pos} {T id : String} {r : V → List V → Hp → VK → Prop} (hK : X.K = K) (pa : PlainAttrs T) (slot : Slot T name id) (hty : typeOf (.builtin id) = pure (.type "method_descriptor")) (hm : MtR X id r) (ho : PE X o to) (ha : PA X (e :: es) t)
  (hbase : attributeBase o name X.env (eval o X.env) = eval o X.env:=by rfl)
  (hfew : ((backTo cpos (starEach (e :: es) X.env)).all (fun x => !x.1) && (backToKw cpos (keywordEach [] X.env)).all (fun x => x.1.isSome)
   && decide ((e :: es).length + ([] : List Keyword).length + (if ([] : List Keyword).isEmpty then 0 else 1) < 30)) = true:=by rfl)
  (hline : (apos.endLine == cpos.line) = true:=by rfl) (hs : starEach (e :: es) X.env = (false,eval e X.env) :: starEach es X.env:=by rfl) (hplain : (backTo cpos (starEach es X.env)).any (·.1) = false:=by rfl) :
  PE X (.Call (.Attribute o name apos) (e :: es) [] cpos) (tBM K T r to t):=by subst hK; exact zcu pa slot hty hm ho ha hbase hfew hline hs hplain
end
end L2
namespace L2
end L2
end
section
namespace My
def Cg (p a b : Int) : Prop:=∃ k,a = b + p * k
theorem Cg.refl (p a : Int) : Cg p a a:=⟨0,by grind⟩
theorem Cg.symm {p a b : Int} (h : Cg p a b) : Cg p b a:=by obtain ⟨k,e⟩:=h; exact ⟨-k,by grind⟩
theorem Cg.trans {p a b c : Int} (h : Cg p a b) (h' : Cg p b c) : Cg p a c:=by
 obtain ⟨k,e⟩:=h; obtain ⟨l,e'⟩:=h'; exact ⟨k + l,by grind⟩
theorem Cg.add {p a b c d : Int} (h : Cg p a b) (h' : Cg p c d) : Cg p (a + c) (b + d):=by
 obtain ⟨k,e⟩:=h; obtain ⟨l,e'⟩:=h'; exact ⟨k + l,by grind⟩
theorem Cg.sub {p a b c d : Int} (h : Cg p a b) (h' : Cg p c d) : Cg p (a - c) (b - d):=by
 obtain ⟨k,e⟩:=h; obtain ⟨l,e'⟩:=h'; exact ⟨k - l,by grind⟩
theorem Cg.mul {p a b c d : Int} (h : Cg p a b) (h' : Cg p c d) : Cg p (a * c) (b * d):=by
 obtain ⟨k,e⟩:=h; obtain ⟨l,e'⟩:=h'
 exact ⟨k * d + b * l + p * k * l,by subst e e'; grind⟩
theorem Cg.of_eq {p a b : Int} (h : a = b) : Cg p a b:=h ▸ Cg.refl p a
theorem Cg.emod (p a : Int) : Cg p (a % p) a:=⟨-(a / p),by have:=Int.emod_add_mul_ediv a p; grind⟩
theorem Cg.mod_eq {p a b : Int} (h : Cg p a b) : a % p = b % p:=by
 obtain ⟨k,e⟩:=h; rw [e,Int.add_mul_emod_self_left]
theorem Cg.of_mod {p a b : Int} (h : a % p = b % p) : Cg p a b:=(Cg.emod p a).symm.trans (h ▸ Cg.emod p b)
theorem Cg.eq {p a b : Int} (h : Cg p a b) (ha : 0 ≤ a) (ha' : a < p) (hb : 0 ≤ b) (hb' : b < p) : a = b:=by
 have:=h.mod_eq
 rwa [Int.emod_eq_of_lt ha ha',Int.emod_eq_of_lt hb hb'] at this
def zt (p x : Int) : List Int → Int
 | [] => 0
 | c :: r => (c + x * zt p x r) % p
theorem zbj {p x : Int} (hp : 0 < p) : ∀ l,0 ≤ zt p x l
 | [] => Int.le_refl 0
 | _ :: _ => Int.emod_nonneg _ (by omega)
theorem zbk {p x : Int} (hp : 0 < p) : ∀ l,zt p x l < p
 | [] => hp
 | _ :: _ => Int.emod_lt_of_pos _ hp
theorem zX (p x c : Int) (r : List Int) : Cg p (zt p x (c :: r)) (c + x * zt p x r):=Cg.emod _ _
theorem zgh {p x : Int} (m : Nat) : zt p x (List.replicate m 0) = 0:=by
 induction m with
 | zero => rfl
 | succ m ih => rw [List.replicate_succ]; show (0 + x * zt p x (List.replicate m 0)) % p = 0; rw [ih]; simp
theorem zfo {p x : Int} (m : Nat) : ∀ l,zt p x (l ++ List.replicate m 0) = zt p x l
 | [] => zgh m
 | c :: r => by show (c + x * zt p x (r ++ List.replicate m 0)) % p = (c + x * zt p x r) % p; rw [zfo m r]
def lv (p x : Int) : Int → Int → List Int → Int
 | total,_,[] => total
 | total,power,c :: r => lv p x ((total + c * power) % p) (power * x % p) r
theorem zkt {p x : Int} : ∀ (l : List Int) (total power : Int),Cg p (lv p x total power l) (total + power * zt p x l)
 | [],total,power => Cg.of_eq (by show total = total + power * 0; grind)
 | c :: r,total,power => by
  have h1:=zkt (p:=p) (x:=x) r ((total + c * power) % p) (power * x % p)
  refine h1.trans ?_
  have h2 : Cg p ((total + c * power) % p + power * x % p * zt p x r) (total + c * power + power * x * zt p x r):=(Cg.emod p _).add ((Cg.emod p (power * x)).mul (Cg.refl p _))
  refine h2.trans ?_
  have h3 : Cg p (total + power * (c + x * zt p x r)) (total + power * zt p x (c :: r)):=(Cg.refl p _).add ((Cg.refl p _).mul (zX p x c r).symm)
  refine (Cg.of_eq ?_).trans h3
  grind
theorem ziF {p x : Int} (hp : 0 < p) : ∀ (l : List Int) (total power : Int),0 ≤ total → total < p → 0 ≤ lv p x total power l ∧ lv p x total power l < p
 | [],total,power,h1,h2 => ⟨h1,h2⟩
 | c :: r,total,power,h1,h2 => ziF hp r _ _ (Int.emod_nonneg _ (by omega)) (Int.emod_lt_of_pos _ hp)
theorem zgO {p x : Int} (hp : 0 < p) (l : List Int) : lv p x 0 1 l = zt p x l:=by
 obtain ⟨a,b⟩:=ziF (x:=x) hp l 0 1 (Int.le_refl _) hp
 exact ((zkt l 0 1).trans (Cg.of_eq (by grind))).eq a b (zbj hp l) (zbk hp l)
def zw : List Int:=[5,7,11,13,17,19,23,29,31,37,41,43,47,53,59,61,67,71,73,79,83,89,97]
def zb1 (p : Int) : Nat → Int → Int → Int → Int
 | 0,prod,_,_ => prod
 | n + 1,prod,sq,left => if 0 < left then zb1 p n (if left % 2 = 1 then prod * sq % p else prod) (sq * sq % p) (left / 2) else prod
def inv (p h : Int) : Int:=zb1 p 7 1 (h % p) (p - 2)
def zmk : Bool:=zw.all fun p => (List.range p.toNat).all fun h => h == 0 || (inv p h * h) % p == 1
theorem zhz : zmk = true:=by decide +kernel
theorem zM {p : Int} (hp : p ∈ zw) : 5 ≤ p ∧ p ≤ 97:=by
 have : zw.all (fun p => decide (5 ≤ p ∧ p ≤ 97)) = true:=by decide +kernel
 have:=List.all_eq_true.mp this p hp
 simpa using this
theorem zeM {p h : Int} (hp : p ∈ zw) (h0 : 0 < h) (h1 : h < p) : Cg p (inv p h * h) 1:=by
 have e:=List.all_eq_true.mp (List.all_eq_true.mp zhz p hp) h.toNat (List.mem_range.mpr (by omega))
 have hh : ((h.toNat : Nat) : Int) = h:=by omega
 have : h.toNat ≠ 0:=by omega
 simp only [Bool.or_eq_true,beq_iff_eq,hh,this,false_or] at e
 have hr:=zM hp
 exact Cg.of_mod (by rw [e,Int.emod_eq_of_lt (by omega) (by omega)])
theorem zfp {p a b : Int} (hp : p ∈ zw) (h : Cg p (a * b) 0) : Cg p a 0 ∨ Cg p b 0:=by
 have hr:=zM hp
 by_cases ha : a % p = 0
 ·exact .inl (Cg.of_mod (by rw [ha]; simp))
 ·right
  have h0 : 0 < a % p:=by have:=Int.emod_nonneg a (show p ≠ 0 by omega); omega
  have hi:=zeM hp h0 (Int.emod_lt_of_pos a (by omega))
  have h1 : Cg p (inv p (a % p) * (a * b)) 0:=((Cg.refl p _).mul h).trans (Cg.of_eq (by grind))
  have h2 : Cg p (inv p (a % p) * (a % p) * b) (1 * b):=hi.mul (Cg.refl p b)
  have h3 : Cg p (inv p (a % p) * (a * b)) (inv p (a % p) * (a % p) * b):=by
   have:=((Cg.refl p (inv p (a % p))).mul (Cg.emod p a).symm).mul (Cg.refl p b)
   exact (Cg.of_eq (by grind)).trans this
  exact ((Cg.of_eq (by grind)).trans (h2.symm.trans (h3.symm.trans h1)))
def trF (p r : Int) (high low : Int) : Int:=(high - r * low) % p
def zcf (p r : Int) (v : List Int) : List Int:=List.zipWith (trF p r) (0 :: v) (v ++ [0])
theorem zku {p r z : Int} : ∀ (v : List Int) (h : Int),Cg p (zt p z (List.zipWith (trF p r) (h :: v) (v ++ [0]))) (h + (z - r) * zt p z v)
 | [],h => by
  show Cg p ((trF p r h 0 + z * 0) % p) (h + (z - r) * 0)
  refine (Cg.emod p _).trans ?_
  have : Cg p (trF p r h 0) (h - r * 0):=Cg.emod p _
  exact (this.add (Cg.refl p (z * 0))).trans (Cg.of_eq (by grind))
 | c :: w,h => by
  show Cg p ((trF p r h c + z * zt p z (List.zipWith (trF p r) (c :: w) (w ++ [0]))) % p) (h + (z - r) * zt p z (c :: w))
  have ih:=zku (p:=p) (r:=r) (z:=z) w c
  have h1 : Cg p (trF p r h c) (h - r * c):=Cg.emod p _
  refine (Cg.emod p _).trans ((h1.add ((Cg.refl p z).mul ih)).trans ?_)
  have h2 : Cg p (h + (z - r) * (c + z * zt p z w)) (h + (z - r) * zt p z (c :: w)):=(Cg.refl p h).add ((Cg.refl p _).mul (zX p z c w).symm)
  exact (Cg.of_eq (by grind)).trans h2
theorem zjN {p r z : Int} (v : List Int) : Cg p (zt p z (zcf p r v)) ((z - r) * zt p z v):=(zku v 0).trans (Cg.of_eq (by grind))
theorem zek (p r : Int) (v : List Int) : (zcf p r v).length = v.length + 1:=by simp [zcf]
theorem zfq {α β γ : Type} {f : α → β → γ} : ∀ {as : List α} {bs : List β} {c : γ},c ∈ List.zipWith f as bs → ∃ a b,c = f a b
 | [],_,c,h => by simp at h
 | _ :: _,[],c,h => by simp at h
 | a :: as,b :: bs,c,h => by
  rcases List.mem_cons.mp h with e | e
  ·exact ⟨a,b,e⟩
  ·exact zfq e
theorem zk1 {p r : Int} (hp : 0 < p) (v : List Int) : ∀ c ∈ zcf p r v,0 ≤ c ∧ c < p:=by
 intro c hc
 obtain ⟨a,b,e⟩:=zfq hc
 rw [e]; exact ⟨Int.emod_nonneg _ (by omega),Int.emod_lt_of_pos _ hp⟩
def ad (p f : Int) : List Int → List Int → List Int
 | c :: cs,v :: vs => (c + f * v) % p :: ad p f cs vs
 | cs,[] => cs
 | [],_ :: _ => []
theorem zel (p f : Int) : ∀ (cs vs : List Int),(ad p f cs vs).length = cs.length
 | _ :: cs,_ :: vs => by show (ad p f cs vs).length + 1 = _; rw [zel p f cs vs]; rfl
 | [],[] => rfl
 | _ :: _,[] => rfl
 | [],_ :: _ => rfl
theorem ziG {p f : Int} (hp : 0 < p) : ∀ (cs vs : List Int),(∀ c ∈ cs,0 ≤ c ∧ c < p) → ∀ c ∈ ad p f cs vs,0 ≤ c ∧ c < p
 | c :: cs,v :: vs,h,d,hd => by
  rcases List.mem_cons.mp hd with e | e
  ·rw [e]; exact ⟨Int.emod_nonneg _ (by omega),Int.emod_lt_of_pos _ hp⟩
  ·exact ziG hp cs vs (fun c hc => h c (List.mem_cons_of_mem _ hc)) d e
 | [],[],h,d,hd => h d hd
 | _ :: _,[],h,d,hd => h d hd
 | [],_ :: _,h,d,hd => by cases hd
theorem zgP {p f z : Int} : ∀ (cs vs : List Int),vs.length ≤ cs.length → Cg p (zt p z (ad p f cs vs)) (zt p z cs + f * zt p z vs)
 | c :: cs,v :: vs,h => by
  have ih:=zgP (p:=p) (f:=f) (z:=z) cs vs (by simpa using h)
  show Cg p (((c + f * v) % p + z * zt p z (ad p f cs vs)) % p) (zt p z (c :: cs) + f * zt p z (v :: vs))
  refine (Cg.emod p _).trans (((Cg.emod p (c + f * v)).add ((Cg.refl p z).mul ih)).trans ?_)
  have h2 : Cg p ((c + z * zt p z cs) + f * (v + z * zt p z vs)) (zt p z (c :: cs) + f * zt p z (v :: vs)):=(zX p z c cs).symm.add ((Cg.refl p f).mul (zX p z v vs).symm)
  exact (Cg.of_eq (by grind)).trans h2
 | [],[],_ => Cg.of_eq (by show (0 : Int) = 0 + f * 0; grind)
 | c :: cs,[],_ => Cg.of_eq (by show zt p z (c :: cs) = zt p z (c :: cs) + f * 0; grind)
 | [],_ :: _,h => by simp at h
def zcv (p : Int) (s : List Int × List Int) (q : Int × Int) : List Int × List Int :=
 (ad p ((q.2 - zt p q.1 s.1) * inv p (zt p q.1 s.2) % p) s.1 s.2,zcf p q.1 s.2)
def zml (p : Int) (n : Nat) (pts : List (Int × Int)) : List Int × List Int:=pts.foldl (zcv p) (List.replicate n 0,[1])
def thr (p : Int) (pts : List (Int × Int)) : List Int:=(zml p pts.length pts).1
def zbU (z : Int) : List (Int × Int) → Int
 | [] => 1
 | q :: r => (z - q.1) * zbU z r
theorem zdu (z : Int) (q : Int × Int) : ∀ l,zbU z (l ++ [q]) = zbU z l * (z - q.1)
 | [] => by show (z - q.1) * 1 = 1 * (z - q.1); grind
 | a :: l => by show (z - a.1) * zbU z (l ++ [q]) = (z - a.1) * zbU z l * (z - q.1); rw [zdu z q l]; grind
theorem zdv {z : Int} : ∀ {l : List (Int × Int)},(∃ q ∈ l,q.1 = z) → zbU z l = 0
 | [],h => by obtain ⟨q,hq,_⟩:=h; cases hq
 | a :: l,h => by
  show (z - a.1) * zbU z l = 0
  obtain ⟨q,hq,e⟩:=h
  rcases List.mem_cons.mp hq with hq | hq
  ·subst hq; rw [e]; simp
  ·rw [zdv ⟨q,hq,e⟩]; simp
theorem zfr {p z : Int} (hp : p ∈ zw) (hz : 0 ≤ z) (hz' : z < p) : ∀ {l : List (Int × Int)},(∀ q ∈ l,0 ≤ q.1 ∧ q.1 < p ∧ q.1 ≠ z) → ¬ Cg p (zbU z l) 0
 | [],_,h => by
  have hr:=zM hp
  have:=h.mod_eq
  have e1 : (zbU z [] : Int) = 1:=rfl
  rw [e1,Int.emod_eq_of_lt (by omega) (by omega)] at this
  simp at this
 | a :: l,hl,h => by
  rcases zfp hp (show Cg p ((z - a.1) * zbU z l) 0 from h) with h | h
  ·obtain ⟨h1,h2,h3⟩:=hl a List.mem_cons_self
   have : Cg p z a.1:=by
    have:=h.add (Cg.refl p a.1)
    exact (Cg.of_eq (by grind)).trans (this.trans (Cg.of_eq (by grind)))
   exact h3 (this.eq hz hz' h1 h2).symm
  ·exact zfr hp hz hz' (fun q hq => hl q (List.mem_cons_of_mem _ hq)) h
structure Nw (p : Int) (n : Nat) (done : List (Int × Int)) (s : List Int × List Int) : Prop where
 lc : s.1.length = n
 lv : s.2.length = done.length + 1
 rc : ∀ c ∈ s.1,0 ≤ c ∧ c < p
 rv : ∀ c ∈ s.2,0 ≤ c ∧ c < p
 van : ∀ z,Cg p (zt p z s.2) (zbU z done)
 hit : ∀ q ∈ done,zt p q.1 s.1 = q.2
theorem zdw {p : Int} (hp : p ∈ zw) (n : Nat) : Nw p n [] (List.replicate n 0,[1]):=by
 have hr:=zM hp
 refine ⟨by simp,rfl,fun c hc => ?_,fun c hc => ?_,fun z => ?_,fun q hq => by cases hq⟩
 ·obtain ⟨_,e⟩:=List.mem_replicate.mp hc
  omega
 ·have : c = 1:=by simpa using hc
  omega
 ·show Cg p ((1 + z * 0) % p) 1
  exact (Cg.emod p _).trans (Cg.of_eq (by grind))
theorem zeN {p : Int} {n : Nat} {done : List (Int × Int)} {s : List Int × List Int} (hp : p ∈ zw) (h : Nw p n done s) {q : Int × Int} (q0 : 0 ≤ q.1) (q1 : q.1 < p) (hd : ∀ a ∈ done,0 ≤ a.1 ∧ a.1 < p ∧ a.1 ≠ q.1) :
  0 < zt p q.1 s.2 ∧ zt p q.1 s.2 < p:=by
 have hr:=zM hp
 refine ⟨?_,zbk (by omega) _⟩
 have h0:=zbj (x:=q.1) (show 0 < p by omega) s.2
 by_cases e : zt p q.1 s.2 = 0
 ·exact absurd ((h.van q.1).symm.trans (Cg.of_eq e)) (zfr hp q0 q1 hd)
 ·omega
theorem zem {p : Int} {n : Nat} {done : List (Int × Int)} {s : List Int × List Int} (hp : p ∈ zw) (h : Nw p n done s) {q : Int × Int} (q0 : 0 ≤ q.1) (q1 : q.1 < p) (hd : ∀ a ∈ done,0 ≤ a.1 ∧ a.1 < p ∧ a.1 ≠ q.1) :
  Cg p ((q.2 - zt p q.1 s.1) * inv p (zt p q.1 s.2) % p * zt p q.1 s.2) (q.2 - zt p q.1 s.1):=by
 obtain ⟨h0,h1⟩:=zeN hp h q0 q1 hd
 have hi:=zeM hp h0 h1
 refine ((Cg.emod p _).mul (Cg.refl p _)).trans ?_
 have:=(Cg.refl p (q.2 - zt p q.1 s.1)).mul hi
 exact (Cg.of_eq (by grind)).trans (this.trans (Cg.of_eq (by grind)))
theorem zeO {p : Int} {n : Nat} {done : List (Int × Int)} {s : List Int × List Int} (hp : p ∈ zw) (h : Nw p n done s) {q : Int × Int} (hn : done.length < n) (q0 : 0 ≤ q.1) (q1 : q.1 < p) (q2 : 0 ≤ q.2) (q3 : q.2 < p)
  (hd : ∀ a ∈ done,0 ≤ a.1 ∧ a.1 < p ∧ a.1 ≠ q.1 ∧ 0 ≤ a.2 ∧ a.2 < p) : Nw p n (done ++ [q]) (zcv p s q):=by
 have hr:=zM hp
 have hd' : ∀ a ∈ done,0 ≤ a.1 ∧ a.1 < p ∧ a.1 ≠ q.1:=fun a ha => ⟨(hd a ha).1,(hd a ha).2.1,(hd a ha).2.2.1⟩
 have hlv:=h.lv
 have hlc:=h.lc
 have hle : s.2.length ≤ s.1.length:=by omega
 refine ⟨by show (ad _ _ _ _).length = n; rw [zel,h.lc],by show (zcf _ _ _).length = _; rw [zek,h.lv,List.length_append,List.length_singleton],ziG (by omega) _ _ h.rc,zk1 (by omega) _,fun z => ?_,fun a ha => ?_⟩
 ·rw [zdu]
  exact (zjN s.2).trans (((Cg.refl p _).mul (h.van z)).trans (Cg.of_eq (by grind)))
 ·have hv:=zgP (p:=p) (f:=(q.2 - zt p q.1 s.1) * inv p (zt p q.1 s.2) % p) (z:=a.1) s.1 s.2 hle; rcases List.mem_append.mp ha with ha | ha
  ·obtain ⟨b0,b1,b2,b3,b4⟩:=hd a ha
   have hz : Cg p (zt p a.1 s.2) 0:=(h.van a.1).trans (Cg.of_eq (zdv ⟨a,ha,rfl⟩))
   have h2 : Cg p (zt p a.1 (ad p ((q.2 - zt p q.1 s.1) * inv p (zt p q.1 s.2) % p) s.1 s.2)) (zt p a.1 s.1):=hv.trans (((Cg.refl p (zt p a.1 s.1)).add ((Cg.refl p _).mul hz)).trans (Cg.of_eq (by rw [Int.mul_zero,Int.add_zero])))
   rw [h.hit a ha] at h2
   exact h2.eq (zbj (by omega) _) (zbk (by omega) _) b3 b4
  ·have e : a = q:=by simpa using ha
   subst e
   have h2 : Cg p (zt p a.1 (ad p ((a.2 - zt p a.1 s.1) * inv p (zt p a.1 s.2) % p) s.1 s.2)) a.2:=hv.trans (((Cg.refl p (zt p a.1 s.1)).add (zem hp h q0 q1 hd')).trans (Cg.of_eq (by omega)))
   exact h2.eq (zbj (by omega) _) (zbk (by omega) _) q2 q3
structure Pts (p : Int) (pts : List (Int × Int)) : Prop where
 nd : (pts.map (·.1)).Nodup
 rg : ∀ q ∈ pts,0 ≤ q.1 ∧ q.1 < p ∧ 0 ≤ q.2 ∧ q.2 < p
theorem Pts.apart {p : Int} {done rest : List (Int × Int)} {q : Int × Int} (h : Pts p (done ++ q :: rest)) : ∀ a ∈ done,0 ≤ a.1 ∧ a.1 < p ∧ a.1 ≠ q.1 ∧ 0 ≤ a.2 ∧ a.2 < p:=fun a ha => by
 obtain ⟨r1,r2,r3,r4⟩:=h.rg a (List.mem_append_left _ ha)
 refine ⟨r1,r2,fun e => ?_,r3,r4⟩
 have nd:=h.nd
 rw [List.map_append,List.nodup_append] at nd
 exact nd.2.2 a.1 (List.mem_map.mpr ⟨a,ha,rfl⟩) q.1 (by simp) e
theorem ziH {p : Int} (hp : p ∈ zw) {n : Nat} : ∀ (rest done : List (Int × Int)) (s : List Int × List Int),Pts p (done ++ rest) → (done ++ rest).length = n → Nw p n done s → Nw p n (done ++ rest) (rest.foldl (zcv p) s)
 | [],done,s,_,_,h => by rw [List.append_nil]; exact h
 | q :: rest,done,s,hP,hn,h => by
  have hn' : done.length < n:=by rw [← hn]; simp
  obtain ⟨a,b,c,d⟩:=hP.rg q (by simp)
  have hs:=zeO hp h (q:=q) hn' a b c d hP.apart
  have e : done ++ q :: rest = (done ++ [q]) ++ rest:=by simp
  rw [e] at hP hn ⊢
  exact ziH hp rest (done ++ [q]) _ hP hn hs
theorem zeP {p : Int} (hp : p ∈ zw) {pts : List (Int × Int)} (hP : Pts p pts) : (thr p pts).length = pts.length ∧ (∀ c ∈ thr p pts,0 ≤ c ∧ c < p) ∧ ∀ q ∈ pts,zt p q.1 (thr p pts) = q.2:=by
 have h:=ziH hp (n:=pts.length) pts [] _ (by simpa using hP) (by simp) (zdw hp pts.length)
 exact ⟨h.lc,h.rc,h.hit⟩
theorem zhA {p high step f m : Int} (hp : p ∈ zw) (h0 : 0 < high) (h1 : high < p) (hf : Cg p (f * high) step) (hm : Cg p (m * high) step) (f0 : 0 ≤ f) (f1 : f < p) (m0 : 0 ≤ m) (m1 : m < p) : f = m:=by
 have hi:=zeM hp h0 h1
 have h2 : Cg p (f * high) (m * high):=hf.trans hm.symm
 have h3:=(Cg.refl p (inv p high)).mul h2
 have h4 : Cg p (inv p high * high * f) (1 * f):=hi.mul (Cg.refl p f)
 have h5 : Cg p (inv p high * high * m) (1 * m):=hi.mul (Cg.refl p m)
 have h6 : Cg p f m:=(Cg.of_eq (by grind)).trans (h4.symm.trans ((Cg.of_eq (by grind)).trans (h3.trans ((Cg.of_eq (by grind)).trans (h5.trans (Cg.of_eq (by grind)))))))
 exact h6.eq f0 f1 m0 m1
theorem zeQ {p f : Int} (hp : 0 < p) : ∀ (cs vs : List Int) (m : Nat),(∀ c ∈ cs,0 ≤ c ∧ c < p) → cs.length ≤ vs.length + m → vs.length ≤ cs.length → List.zipWith (fun one other => (one + f * other) % p) cs (vs ++ List.replicate m 0) = ad p f cs vs
 | c :: cs,v :: vs,m,h,h1,h2 => by
  show (c + f * v) % p :: List.zipWith _ cs (vs ++ List.replicate m 0) = (c + f * v) % p :: ad p f cs vs
  rw [zeQ hp cs vs m (fun d hd => h d (List.mem_cons_of_mem _ hd)) (by simp at h1; omega) (by simpa using h2)]
 | [],[],m,_,_,_ => by simp [ad]
 | [],_ :: _,_,_,_,h2 => by simp at h2
 | c :: cs,[],m,h,h1,h2 => by
  cases m with
  | zero => simp at h1
  | succ m =>
   obtain ⟨c0,c1⟩:=h c List.mem_cons_self
   have ih:=zeQ (f:=f) hp cs [] m (fun d hd => h d (List.mem_cons_of_mem _ hd)) (by simp at h1 ⊢; omega) (by simp)
   have e : ad p f cs [] = cs:=by cases cs <;> rfl
   rw [e,List.nil_append] at ih
   rw [List.nil_append,List.replicate_succ]
   show (c + f * 0) % p :: List.zipWith _ cs (List.replicate m 0) = c :: cs
   rw [ih,Int.mul_zero,Int.add_zero,Int.emod_eq_of_lt c0 c1]
theorem zen {p r : Int} : ∀ m : Nat,List.zipWith (trF p r) (List.replicate (m + 1) 0) (List.replicate m 0) = List.replicate m 0
 | 0 => by simp
 | m + 1 => by
  rw [List.replicate_succ (n:=m + 1),List.replicate_succ (n:=m)]
  show trF p r 0 0 :: List.zipWith (trF p r) (0 :: List.replicate m 0) (List.replicate m 0) = 0 :: List.replicate m 0
  have:=zen (p:=p) (r:=r) m
  rw [List.replicate_succ] at this
  rw [this]
  have e : trF p r 0 0 = 0:=by simp [trF]
  rw [e]
theorem zgQ {p r : Int} (m : Nat) : ∀ (v : List Int) (h : Int),List.zipWith (trF p r) (h :: (v ++ List.replicate (m + 1) 0)) (v ++ List.replicate (m + 1) 0) = List.zipWith (trF p r) (h :: v) (v ++ [0]) ++ List.replicate m 0
 | [],h => by
  rw [List.nil_append,List.replicate_succ]
  show trF p r h 0 :: List.zipWith (trF p r) (0 :: List.replicate m 0) (List.replicate m 0) = trF p r h 0 :: List.replicate m 0
  have:=zen (p:=p) (r:=r) m
  rw [List.replicate_succ] at this
  rw [this]
 | c :: v,h => by
  show trF p r h c :: List.zipWith (trF p r) (c :: (v ++ List.replicate (m + 1) 0)) (v ++ List.replicate (m + 1) 0) = trF p r h c :: (List.zipWith (trF p r) (c :: v) (v ++ [0]) ++ List.replicate m 0)
  rw [zgQ m v c]
end My
end
section
set_option maxHeartbeats 3999000
namespace My
open PySem L2 PyProof.Rows
section
variable {K : PySem.W.Frag}
theorem ziI {ns : List Int} {k : Int} (h0 : 0 ≤ k) (h1 : k < ns.length) : ∃ c : Int,ns[k.toNat]? = some c ∧ atI (ns.map V.int) k = some (.int c):=by
 have hlt : k.toNat < ns.length:=by omega
 have e : atI (ns.map V.int) ((k.toNat : Nat) : Int) = some (.int ns[k.toNat]):=zaD (by simp [List.getElem?_map,List.getElem?_eq_getElem hlt])
 have hk : ((k.toNat : Nat) : Int) = k:=by omega
 rw [hk] at e
 exact ⟨ns[k.toNat],by simp,e⟩
theorem zdd {ns : List Int} {k : Int} (h0 : 0 ≤ k) (h1 : k < ns.length) : ∃ c : Int,atI (ns.map V.int) k = some (.int c):=let ⟨c,_,e⟩:=ziI h0 h1; ⟨c,e⟩
theorem ze {H : Hp} {a : Addr} {o : HO} (h : H a = none) : zy H (upd H a o):=fun b u e => by rw [zp (zu e h)]; exact e
theorem zY {H H' : Hp} {a : Addr} {o : HO} (s : zy H H') (h : H a = none) : zy H (upd H' a o):=fun b u e => by rw [zp (zu e h)]; exact s b u e
theorem zP {n : Nat} (h : n ≤ 10000) : n < sizeLine:=by rw [sizeLine_eq]; omega
def zhB (K : PySem.W.Frag) : Sp:=fun vs H Q _ => ∃ (a : Addr) (ns : List Int) (k : Int),vs = [.ref a,.int k] ∧ SqL K H a (ns.map V.int) ∧ ns.length ≤ 63 ∧ 0 ≤ k ∧ k ≤ 1000 ∧ ∀ c : Int,Q (.int c) H
def zgR (many : Nat) (base : Int) (ds : List Int) : Prop:=ds.length = many ∧ ∀ d ∈ ds,0 ≤ d ∧ d < base
def zgi (K : PySem.W.Frag) : Sp:=fun vs H Q _ => ∃ (a : Addr) (ns : List Int) (k many base : Int),vs = [.ref a,.int k,.int many,.int base] ∧ SqL K H a (ns.map V.int) ∧ ns.length ≤ 63 ∧ 0 ≤ k ∧ k ≤ 1000 ∧ 0 ≤ many ∧ many ≤ 1000 ∧ 0 < base ∧ base < 1073741824 ∧
 ∀ (l : Addr) (ds : List Int) (H' : Hp),H l = none → zy H H' → zgR many.toNat base ds → H' l = some (.lst (ds.map V.int)) → Q (.ref l) H'
abbrev zjO : List V:=[.int 2147483647,.int 2147483629,.int 2147483587,.int 2147483579,.int 2147483563,.int 2147483549,.int 2147483543,.int 2147483497]
theorem zjP {m : Int} (h0 : 0 ≤ m) (h1 : m < 8) : ∃ q : Int,atI zjO m = some (.int q) ∧ 0 < q ∧ q < 2147483648:=by
 have : m = 0 ∨ m = 1 ∨ m = 2 ∨ m = 3 ∨ m = 4 ∨ m = 5 ∨ m = 6 ∨ m = 7:=by omega
 rcases this with e | e | e | e | e | e | e | e <;> subst e <;> exact ⟨_,rfl,by decide,by decide⟩
theorem zdx (j : Int) : ∃ q : Int,atI zjO (j % 8) = some (.int q) ∧ 0 < q ∧ q < 2147483648:=zjP (Int.emod_nonneg _ (by decide)) (Int.emod_lt_of_pos _ (by decide))
theorem gY {i : Nat} {x : V} {σ : L2.St} {H : Hp} {A B : L2.St → Hp → Prop} (h : A (σ.set i (some x)) H) : zaz i x σ H (fun σ2 H2 => zkX σ2 H2 fun b H3 => if b = true then A σ2 H3 else B σ2 H3):=by
 show (if true = true then A (σ.set i (some x)) H else B (σ.set i (some x)) H)
 rw [if_pos rfl]
 exact h
structure CodeOk (mk mn p k : Int) (pl : List Int) : Prop where
 pr : p ∈ zw
 k1 : 1 ≤ k
 kk : k ≤ mk
 kl : k ≤ pl.length
 ln : (pl.length : Int) ≤ mn
 nd : pl.Nodup
 rg : ∀ x ∈ pl,0 ≤ x ∧ x < p
def zhC (K : PySem.W.Frag) : Sp:=fun vs H Q _ => ∃ (a : Addr) (ns : List Int) (at' mk mn : Int),vs = [.ref a,.int at',.int mk,.int mn] ∧ SqL K H a (ns.map V.int) ∧ ns.length ≤ 63 ∧ 0 ≤ at' ∧ at' ≤ 1000 ∧ 1 ≤ mk ∧ mk ≤ 5 ∧ mk ≤ mn ∧ mn ≤ 16 ∧
 ∀ (c tt : Addr) (p k : Int) (pl : List Int) (H' : Hp),H c = none → zy H H' → CodeOk mk mn p k pl → H' c = some (.tup [.int p,.int k,.ref tt]) → H' tt = some (.tup (pl.map V.int)) → Q (.ref c) H'
theorem zk2 {x y m : Int} (h0 : 0 ≤ m) (h1 : m < 2) : ∃ z : Int,atI [V.int x,V.int y] m = some (.int z) ∧ (z = x ∨ z = y):=by
 have : m = 0 ∨ m = 1:=by omega
 rcases this with e | e <;> subst e
 ·exact ⟨x,rfl,.inl rfl⟩
 ·exact ⟨y,rfl,.inr rfl⟩
theorem ziJ {ns : List Int} {k : Int} (h0 : 0 ≤ k) (h1 : k < ns.length) : ∃ c : Int,c ∈ ns ∧ atI (ns.map V.int) k = some (.int c):=by
 obtain ⟨c,e,h⟩:=ziI h0 h1
 exact ⟨c,List.mem_of_getElem? e,h⟩
theorem zeo {α β : Type} (f : α → β) : ∀ (l : List α) (k : Nat),(l.map f).eraseIdx k = (l.eraseIdx k).map f
 | [],_ => rfl
 | _ :: _,0 => rfl
 | a :: l,k + 1 => by show f a :: (l.map f).eraseIdx k = f a :: (l.eraseIdx k).map f; rw [zeo f l k]
theorem zdy {α : Type} : ∀ {l : List α} {k : Nat} {x : α},l[k]? = some x → (x :: l.eraseIdx k).Perm l
 | [],_,_,h => by simp at h
 | a :: l,0,x,h => by
  have e : a = x:=by simpa using h
  subst e
  exact List.Perm.refl _
 | a :: l,k + 1,x,h => by
  have ih:=zdy (l:=l) (k:=k) (x:=x) (by simpa using h)
  exact (List.Perm.swap a x _).trans (ih.cons a)
theorem zjQ {p : Int} {xs ls : List Int} {k : Nat} {x : Int} (h : ls[k]? = some x) (nd : (xs ++ ls).Nodup) (rg : ∀ y ∈ xs ++ ls,0 ≤ y ∧ y < p) : ((xs ++ [x]) ++ ls.eraseIdx k).Nodup ∧ ∀ y ∈ (xs ++ [x]) ++ ls.eraseIdx k,0 ≤ y ∧ y < p:=by
 have hp : ((xs ++ [x]) ++ ls.eraseIdx k).Perm (xs ++ ls):=by
  rw [List.append_assoc]
  exact (zdy h).append_left xs
 exact ⟨hp.nodup_iff.mpr nd,fun y hy => rg y (hp.mem_iff.mp hy)⟩
theorem zhD (p : Int) : (zbp 0 p.toNat).Nodup ∧ ∀ y ∈ zbp 0 p.toNat,0 ≤ y ∧ y < p:=by
 unfold zbp
 constructor
 ·rw [List.nodup_iff_pairwise_ne,List.pairwise_map]
  exact (List.nodup_iff_pairwise_ne.mp (List.nodup_range (n:=p.toNat))).imp fun {a b} hab => by omega
 ·intro y hy
  obtain ⟨i,hi,e⟩:=List.mem_map.mp hy
  have:=List.mem_range.mp hi
  omega
def zcR (K : PySem.W.Frag) : Sp:=fun vs H Q _ => ∃ (p x : Int) (a : Addr) (cs : List Int),vs = [.int p,.ref a,.int x] ∧ (SqL K H a (cs.map V.int) ∨ SqT K H a (cs.map V.int)) ∧ 0 < p ∧ p ≤ 97 ∧ 0 ≤ x ∧ x < p ∧ Q (.int (zt p x cs)) H
def zgj (K : PySem.W.Frag) : Sp:=zcR K
theorem zep {cs : List Int} {i : Nat} {c : Int} (hi : i < cs.length) (h : cs[cs.length - 1 - i]? = some c) : cs.drop (cs.length - (i + 1)) = c :: cs.drop (cs.length - i):=by
 have e : cs.length - (i + 1) = cs.length - 1 - i:=by omega
 have hlt : cs.length - 1 - i < cs.length:=by omega
 rw [e,List.drop_eq_getElem_cons hlt]
 have : cs[cs.length - 1 - i] = c:=by
  rw [List.getElem?_eq_getElem hlt] at h
  exact Option.some.inj h
 rw [this]
 congr 2
 omega
theorem zas {cs : List Int} {j : Nat} {x : V} (h : (cs.map V.int)[j]? = some x) : ∃ c,x = .int c ∧ cs[j]? = some c:=by
 rw [List.getElem?_map] at h
 cases e : cs[j]? with
 | none => rw [e] at h; cases h
 | some c => rw [e] at h; exact ⟨c,(Option.some.inj h).symm,rfl⟩
def zgk (K : PySem.W.Frag) : Sp:=fun vs H Q _ => ∃ i : Int,vs = [.int i] ∧ Q (.bl true) H
theorem zgS {p x total power c : Int} {cs : List Int} {i : Nat} (h : cs[i]? = some c) : lv p x total power (cs.drop i) = lv p x ((total + c * power) % p) (power * x % p) (cs.drop (i + 1)):=by
 obtain ⟨hlt,e⟩:=List.getElem?_eq_some_iff.mp h
 rw [List.drop_eq_getElem_cons hlt,e]
 rfl
def zgl (K : PySem.W.Frag) : Sp:=fun vs H Q _ => ∃ (p h : Int),vs = [.int p,.int h] ∧ p ∈ zw ∧ 0 ≤ h ∧ h < p ∧ Q (.int (inv p h)) H
def zk3 (σ : L2.St) : Nat:=match (σ[4]? : Option (Option V)) with
 | some (some (V.int l)) => l.toNat
 | _ => 0
theorem zeR {p prod sq left : Int} {n : Nat} (h0 : 0 < left) (h1 : left < 2 ^ (n + 1)) : zb1 p (n + 1) prod sq left = zb1 p n (if left % 2 = 1 then prod * sq % p else prod) (sq * sq % p) (left / 2):=by
 show (if 0 < left then _ else _) = _
 rw [if_pos h0]
theorem zfs {p prod sq : Int} : ∀ n,zb1 p n prod sq 0 = prod
 | 0 => rfl
 | n + 1 => by show (if (0 : Int) < 0 then _ else prod) = prod; rw [if_neg (by decide)]
theorem gY2 {K : PySem.W.Frag} {i j : Nat} {T : Addr} {x y : V} {σ : L2.St} {H : Hp} {A B : L2.St → Hp → Prop} (hT : SqT K H T [x,y]) (h : A ((σ.set i (some x)).set j (some y)) H) :
  zgb K 2 (zcc (zaz i) (zcc (zaz j) zho)) (.ref T) σ H (fun σ2 H2 => zkX σ2 H2 fun b H3 => if b = true then A σ2 H3 else B σ2 H3):=by
 refine ⟨T,_,rfl,hT,rfl,x,_,rfl,y,_,rfl,rfl,?_⟩
 show (if true = true then A ((σ.set i (some x)).set j (some y)) H else B ((σ.set i (some x)).set j (some y)) H)
 rw [if_pos rfl]
 exact h
theorem zft {f : Int → Int → Int} {as bs : List Int} {i : Nat} {x y : Int} (hx : as[i]? = some x) (hy : bs[i]? = some y) : (List.zipWith f as bs).take (i + 1) = (List.zipWith f as bs).take i ++ [f x y]:=by
 have e : (List.zipWith f as bs)[i]? = some (f x y):=by rw [List.getElem?_zipWith,hx,hy]
 rw [List.take_add_one,e,Option.toList]
def zd0 (K : PySem.W.Frag) : Sp:=fun vs H Q _ => ∃ (p r : Int) (a : Addr) (cs : List Int),vs = [.int p,.ref a,.int r] ∧ H a = some (.lst (cs.map V.int)) ∧ cs.length ≤ 1000 ∧ 0 < p ∧ 0 ≤ r ∧ r ≤ 97 ∧
 ∀ (l : Addr) (H' : Hp),H l = none → zy H H' → H' l = some (.lst ((zcf p r cs).map V.int)) → Q (.ref l) H'
def ziK (K : PySem.W.Frag) (H : Hp) (a : Addr) (pts : List (Int × Int)) : Prop:=∃ bs : List Addr,SqL K H a (bs.map V.ref) ∧ bs.length = pts.length ∧ ∀ (i : Nat) (b : Addr) (q : Int × Int),bs[i]? = some b → pts[i]? = some q → H b = some (.tup [.int q.1,.int q.2])
theorem zdz (n : Nat) : (List.replicate n [V.int 0]).flatten = (List.replicate n (0 : Int)).map V.int:=by
 induction n with
 | zero => rfl
 | succ n ih => rw [List.replicate_succ,List.flatten_cons,ih,List.replicate_succ]; rfl
theorem zjR {n j : Nat} (h : j < n) : ixN n (j : Int) = some j:=by
 unfold ixN
 rw [if_pos (by omega),if_pos (by omega)]
 rfl
theorem zaj {bs : List Addr} {i : Nat} {x : V} (h : (bs.map V.ref)[i]? = some x) : ∃ b,x = .ref b ∧ bs[i]? = some b:=by
 rw [List.getElem?_map] at h
 cases e : bs[i]? with
 | none => rw [e] at h; cases h
 | some b => rw [e] at h; exact ⟨b,(Option.some.inj h).symm,rfl⟩
theorem take_snoc {α : Type} {l : List α} {i : Nat} {x : α} (h : l[i]? = some x) : l.take (i + 1) = l.take i ++ [x]:=by
 rw [List.take_add_one,h,Option.toList]
theorem zbF {α : Type} {l : List α} {i : Nat} {x : α} (h : l[i]? = some x) : l = l.take i ++ x :: l.drop (i + 1):=by
 obtain ⟨hi,e⟩:=List.getElem?_eq_some_iff.mp h; have:=List.take_append_drop i l
 rw [List.drop_eq_getElem_cons hi,e] at this
 exact this.symm
def zdA (K : PySem.W.Frag) : Sp:=fun vs H Q _ => ∃ (p : Int) (a : Addr) (pts : List (Int × Int)),vs = [.int p,.ref a] ∧ ziK K H a pts ∧ pts.length ≤ 100 ∧ p ∈ zw ∧ Pts p pts ∧
 ∀ (l : Addr) (H' : Hp),H l = none → zy H H' → H' l = some (.tup ((thr p pts).map V.int)) → Q (.ref l) H'
def zeS (K : PySem.W.Frag) : Sp:=zdA K
theorem ziL {f : Int → Int → Int} {as bs : List Int} {n : Nat} (h1 : n ≤ as.length) (h2 : n ≤ bs.length) (h3 : as.length ≤ n ∨ bs.length ≤ n) : (List.zipWith f as bs).length = n:=by
 rw [List.length_zipWith]
 omega
theorem zcL {a b : Addr} {as bs : List Int} {n : Nat} {f : Int → Int → Int} {g : TG} {ts : TT} {te : TE} {σ0 : L2.St} {Q : VK} {H : Hp} (ha : H a = some (.lst (as.map V.int))) (hb : H b = some (.lst (bs.map V.int))) (h1 : n ≤ as.length) (h2 : n ≤ bs.length) (h3 : as.length ≤ n ∨ bs.length ≤ n) (hn : n ≤ 10000)
  (hs : ∀ (i : Nat) (x y : Int) (H1 : Hp) (T : Addr) (R : VK) (B : L2.St → Hp → Prop),as[i]? = some x → bs[i]? = some y → zy H H1 → H1 T = none → R (.int (f x y)) (upd H1 T (.tup [.int x,.int y])) → g (.ref T) σ0 (upd H1 T (.tup [.int x,.int y])) fun σ2 H2 => ts σ2 H2 fun b H3 => if b = true then te σ2 H3 R else B σ2 H3)
  (hd : ∀ D H1,zy H H1 → H1 D = none → Q (.ref D) (upd H1 D (.lst ((List.zipWith f as bs).map V.int)))) : cGo g ts te σ0 (zhv (SqL K) (SqL K) a b) Q H:=by
 have hl:=ziL (f:=f) h1 h2 h3
 refine zU (n:=n) (fun i ys H' => ys = ((List.zipWith f as bs).take i).map V.int ∧ zy H H') ⟨by simp,fun _ _ e => e⟩ ?_ ?_ ?_ ?_
 ·rintro i ys H3 hi ⟨_,s3⟩
  obtain ⟨x,hx⟩ : ∃ x,as[i]? = some x:=⟨as[i]'(by omega),by simp⟩
  obtain ⟨y,hy⟩ : ∃ y,bs[i]? = some y:=⟨bs[i]'(by omega),by simp⟩
  exact ⟨_,_,.int x,.int y,SqL.of (s3 _ _ ha),SqL.of (s3 _ _ hb),by rw [List.getElem?_map,hx]; rfl,by rw [List.getElem?_map,hy]; rfl⟩
 ·rintro ys H3 ⟨_,s3⟩
  exact ⟨_,_,SqL.of (s3 _ _ ha),SqL.of (s3 _ _ hb),by rw [List.length_map,List.length_map]; exact h3⟩
 ·rintro i x ys H3 H4 hi ⟨rfl,s3⟩ ⟨T,u,v,hT,rfl,rfl,hu,hv⟩
  obtain ⟨x,rfl,hx⟩:=zas (hu _ (SqL.of (s3 _ _ ha)))
  obtain ⟨y,rfl,hy⟩:=zas (hv _ (SqL.of (s3 _ _ hb)))
  refine hs i x y H3 T _ _ hx hy s3 hT ⟨zP ?_,?_,s3.trans (ze hT)⟩
  ·rw [List.length_map]
   exact Nat.le_trans (List.length_take_le _ _) (by omega)
  ·rw [zft hx hy,List.map_append]
   rfl
 ·rintro ys H3 D ⟨rfl,s3⟩ hD
  rw [List.take_of_length_le (by omega)]
  exact hd D H3 s3 hD
theorem zhE {a : Addr} {xs fs : List V} {g : TG} {ts : TT} {te : TE} {σ0 : L2.St} {Q : VK} {H : Hp} (ha : SqL K H a xs) (hl : fs.length = xs.length) (hn : xs.length ≤ 10000)
  (hs : ∀ (i : Nat) (x y : V) (R : VK) (B : L2.St → Hp → Prop),xs[i]? = some x → fs[i]? = some y → R y H → g x σ0 H fun σ2 H2 => ts σ2 H2 fun b H3 => if b = true then te σ2 H3 R else B σ2 H3)
  (hd : ∀ D,H D = none → Q (.ref D) (upd H D (.lst fs))) : cGo g ts te σ0 (Itl K a) Q H:=by
 refine zU (n:=xs.length) (fun i ys H' => ys = fs.take i ∧ H' = H) ⟨by simp,rfl⟩ ?_ ?_ ?_ ?_
 ·rintro i ys H3 hi ⟨_,rfl⟩
  exact ⟨_,xs[i],ha,by simp⟩
 ·rintro ys H3 ⟨_,rfl⟩
  exact ⟨_,ha,Nat.le_refl _⟩
 ·rintro i x ys H3 H4 hi ⟨rfl,rfl⟩ ⟨rfl,hx⟩
  have hy : fs[i]? = some fs[i]:=by simp
  refine hs i x fs[i] _ _ (hx _ ha) hy ⟨zP (Nat.le_trans (List.length_take_le _ _) (by omega)),?_,rfl⟩
  rw [take_snoc hy]
 ·rintro ys H3 D ⟨rfl,rfl⟩ hD
  rw [List.take_of_length_le (by omega)]
  exact hd D hD
theorem zfu (ds : List Int) (lo hi : Option Int) : ∃ ms : List Int,zdr (ds.map V.int) lo hi = ms.map V.int ∧ ms.length ≤ ds.length:=by
 refine ⟨(ds.drop (HT.sIx (ds.map V.int).length 0 lo)).take (HT.sIx (ds.map V.int).length (ds.map V.int).length hi - HT.sIx (ds.map V.int).length 0 lo),?_,?_⟩
 ·unfold zdr; rw [List.map_take,List.map_drop]
 ·rw [List.length_take,List.length_drop]
  omega
theorem zfv {ms : List Int} {f : Int → V} {i : Nat} {x y : V} (hx : (ms.map V.int)[i]? = some x) (hy : (ms.map f)[i]? = some y) : ∃ c,ms[i]? = some c ∧ x = .int c ∧ y = f c:=by
 obtain ⟨c,rfl,hc⟩:=zas hx
 rw [List.getElem?_map,hc] at hy
 exact ⟨c,hc,rfl,(Option.some.inj hy).symm⟩
def zeT (K : PySem.W.Frag) : Sp:=fun vs H Q _ => ∃ (a : Addr) (ns : List Int),vs = [.ref a] ∧ SqL K H a (ns.map V.int) ∧ ns.length ≤ 63 ∧ ∀ H',Q (.bl true) H'
end
end My
end
section
set_option maxHeartbeats 3999000
namespace PySem
abbrev IsZ (h : Heap) (z TI TO : Addr) (f0 f1 : Value) : Prop:=h.get? z = some { cls:=.type "zip",dict:=none,data:=.fields #[f0,f1,.bool false,.ref TI,.ref TO],slots:=#[] }
def ZF (f0 f1 : Value) : Prop:=(f0 = .none ∨ ∃ a t,f0 = .int a t) ∧ ∃ b,f1 = .bool b
structure Zap (z TI TO i1 i2 : Addr) (fp1 fp2 : List Addr) : Prop where
 zTI : TI ≠ z
 zTO : TO ≠ z
 z1 : i1 ≠ z
 z2 : i2 ≠ z
 TT : TI ≠ TO
 T1 : TI ≠ i1
 T2 : TI ≠ i2
 O1 : TO ≠ i1
 O2 : TO ≠ i2
 ii : i1 ≠ i2
 a1 : z ∉ fp1
 a2 : TO ∉ fp1
 a3 : i2 ∉ fp1
 b1 : z ∉ fp2
 b2 : TO ∉ fp2
 b3 : i1 ∉ fp2
section
variable {prog : Program} {w : World} {A : Around} {E : Value → Shared → Prop} {s : Shared}
theorem zhF {a : Addr} {Q : Option Obj → Shared → Prop} (h : Q (s.heap.get? a) s) : wpAny (model prog w) A (loadIfAlive a) Q E s:=fun _ _ _ => h
theorem ziM {z TI TO : Addr} {f0 f1 : Value} {Q : Bool → Shared → Prop} (hz : IsZ s.heap z TI TO f0 f1) (hf : ZF f0 f1) (h1 : Q true s)
  (h2 : ∀ h',IsZ h' z TI TO f0 (.bool true) → Heap.SameBut z s.heap h' → Q false { s with heap:=h' }) : wpAny (model prog w) A (Builtin.SmallTypes.ownedTupleIsFree (.ref z)) Q E s:=by
 obtain ⟨hf,b,rfl⟩:=hf
 unfold Builtin.SmallTypes.ownedTupleIsFree; rcases hf with rfl | ⟨a,t,rfl⟩
 ·exact wpAny_bind (wpAny_field hz rfl (x:=.none) rfl (wpAny_pure h1))
 ·refine wpAny_bind (wpAny_field hz rfl (x:=.int a t) rfl ?_)
  refine wpAny_bind (zhF ?_)
  cases s.heap.get? a.toNat with
  | none => exact wpAny_pure h1
  | some o =>
   refine wpAny_bind (wpAny_field hz rfl (x:=.bool b) rfl ?_)
   cases b with
   | true => exact wpAny_pure (h2 s.heap hz ⟨rfl,fun _ _ => rfl⟩)
   | false => exact wpAny_bind (wpAny_setField_rec hz (by simp) fun h' a' b' => wpAny_pure (h2 h' a' b'))
theorem zgT {z TI TO i1 i2 : Addr} {fp1 fp2 : List Addr} {n1 n2 k1 k2 : Nat} {P1 P2 : Nat → Value → Prop} {S1 S2 : Nat → Heap → Prop} {f0 f1 a b : Value} {Q : Value → Shared → Prop} (D1 : Draws prog w A i1 fp1 n1 P1 S1) (D2 : Draws prog w A i2 fp2 n2 P2 S2) (Z : Zap z TI TO i1 i2 fp1 fp2)
  (hz : IsZ s.heap z TI TO f0 f1) (hf : ZF f0 f1) (hTI : IsPair s.heap TI (.ref i1) (.ref i2)) (hTO : IsPair s.heap TO a b) (st1 : S1 k1 s.heap) (st2 : S2 k2 s.heap) (l1 : k1 < n1) (l2 : k2 < n2)
  (hQ : ∀ x y h' tk g0 g1 a' b',P1 k1 x → P2 k2 y → IsZ h' z TI TO g0 g1 → ZF g0 g1 → IsPair h' TI (.ref i1) (.ref i2) → IsPair h' TO a' b' → S1 (k1 + 1) h' → S2 (k2 + 1) h' → IsPair h' s.heap.objs.size x y → h'.objs.size = s.heap.objs.size + 1 →
   (∀ c o,c ≠ z → c ≠ TO → c ≠ i1 → c ≠ i2 → s.heap.get? c = some o → h'.get? c = some o) → Q (.ref s.heap.objs.size) { s with heap:=h',toks:=tk }) : wpAny (model prog w) A (Builtin.«zip.__next__» ⟨[.ref z],[]⟩) (fun fin s' => ∃ v,fin = .done (.ret v) ∧ Q v s') E s:=by
 obtain ⟨hp,g,d,tk0,os⟩:=s
 show wpAny _ _ (field (.ref z) 2 >>= _) _ _ _; refine wpAny_bind (wpAny_field hz rfl (x:=.bool false) rfl ?_); show wpAny _ _ (field (.ref z) 3 >>= _) _ _ _
 refine wpAny_bind (wpAny_field hz rfl (x:=.ref TI) rfl ?_); refine wpAny_bind (wpAny_seqItems hTI rfl ?_)
 show wpAny _ _ (Builtin.SmallTypes.ownedTupleIsFree (.ref z) >>= _) _ _ _; refine wpAny_bind (ziM hz hf ?_ fun h0 hz0 hs0 => ?_)
 ·simp only [if_true]
  refine wpAny_bind (wpAny_rule (wpAny_bind (wpAny_field hz rfl (x:=.ref TO) rfl ?_)))
  refine wpAny_bind (wpAny_setField_rec hz (by simp) fun ha hza hsa => ?_)
  replace hza : IsZ ha z TI TO .ellipsis f1:=hza
  replace hsa : Heap.SameBut z hp ha:=hsa
  refine wpAny_bind ?_
  simp only [List.zipIdx_cons,List.zipIdx_nil,List.forIn_cons,List.forIn_nil]; refine wpAny_bind (wpAny_bind (wpAny_onRaise ?_)); show wpAny _ _ (Builtin.SmallTypes.nextOf (.ref i1) >>= _) _ _ _
  refine wpAny_bind (D1.item k1 _ _ _ l1 (D1.frame _ _ _ st1 fun c hc o e => hsa.extBut c o (fun q => Z.a1 (q ▸ hc)) e) fun x hb tkb px stb hsb => wpAny_pure ?_)
  replace hsb : Heap.SameBut i1 ha hb:=hsb
  have hTOb : IsPair hb TO a b:=hsb.extBut _ _ Z.O1 (hsa.extBut _ _ Z.zTO hTO)
  refine wpAny_bind (wpAny_seqItems hTOb rfl (wpAny_bind (wpAny_updateSeq_pair hTOb fun hc hTOc hsc => ?_)))
  replace hTOc : IsPair hc TO x b:=hTOc
  replace hsc : Heap.SameBut TO hb hc:=hsc
  refine wpAny_bind (wpAny_letGo (wpAny_pure (wpAny_bind (wpAny_bind (wpAny_onRaise ?_))))); show wpAny _ _ (Builtin.SmallTypes.nextOf (.ref i2) >>= _) _ _ _
  refine wpAny_bind (D2.item k2 _ _ _ l2 (D2.frame _ _ _ st2 fun c hcf o e => hsc.extBut c o (fun q => Z.b2 (q ▸ hcf)) (hsb.extBut c o (fun q => Z.b3 (q ▸ hcf)) (hsa.extBut c o (fun q => Z.b1 (q ▸ hcf)) e))) fun y hd tkd py std hsd => wpAny_pure ?_)
  replace hsd : Heap.SameBut i2 hc hd:=hsd
  have hTOd : IsPair hd TO x b:=hsd.extBut _ _ Z.O2 hTOc
  refine wpAny_bind (wpAny_seqItems hTOd rfl (wpAny_bind (wpAny_updateSeq_pair hTOd fun he hTOe hse => ?_)))
  replace hTOe : IsPair he TO x y:=hTOe
  replace hse : Heap.SameBut TO hd he:=hse
  refine wpAny_bind (wpAny_letGo (wpAny_pure (wpAny_pure ?_))); refine wpAny_bind (wpAny_seqItems hTOe rfl (wpAny_bind (wpAny_newTuple ?_)))
  have hsz : he.objs.size = hp.objs.size:=by rw [hse.1,hsd.1,hsc.1,hsb.1,hsa.1]
  have hze : IsZ he z TI TO .ellipsis f1:=hse.extBut _ _ Z.zTO.symm (hsd.extBut _ _ Z.z2.symm (hsc.extBut _ _ Z.zTO.symm (hsb.extBut _ _ Z.z1.symm hza)))
  have kk : ∀ c o,c ≠ z → c ≠ TO → c ≠ i1 → c ≠ i2 → hp.get? c = some o → he.get? c = some o:=fun c o c1 c2 c3 c4 e => hse.extBut _ _ c2 (hsd.extBut _ _ c4 (hsc.extBut _ _ c2 (hsb.extBut _ _ c3 (hsa.extBut _ _ c1 e))))
  have st1e : S1 (k1 + 1) he:=D1.frame _ _ _ stb fun c hcf o e => hse.extBut c o (fun q => Z.a2 (q ▸ hcf)) (hsd.extBut c o (fun q => Z.a3 (q ▸ hcf)) (hsc.extBut c o (fun q => Z.a2 (q ▸ hcf)) e))
  have st2e : S2 (k2 + 1) he:=D2.frame _ _ _ std fun c hcf o e => hse.extBut c o (fun q => Z.b2 (q ▸ hcf)) e
  have zlt : z < he.objs.size:=Heap.lt_size hze
  show wpAny _ _ (Builtin.SmallTypes.ownedTupleHandOut (.ref z) (.ref he.objs.size) >>= _) _ _ _
  refine wpAny_bind ?_
  unfold Builtin.SmallTypes.ownedTupleHandOut; have hzf : IsZ (he.push { cls:=.type "tuple",data:=.seq #[x,y] }) z TI TO .ellipsis f1:=Heap.get?_push_of_some _ hze
  refine wpAny_bind (wpAny_setField_rec hzf (by simp) fun h7 hz7 hs7 => ?_)
  replace hz7 : IsZ h7 z TI TO (rawInt he.objs.size) f1:=hz7
  refine wpAny_setField_rec hz7 (by simp) fun h8 hz8 hs8 => wpAny_pure ⟨_,rfl,?_⟩
  replace hz8 : IsZ h8 z TI TO (rawInt he.objs.size) (.bool false):=hz8
  have up : ∀ c o,c ≠ z → he.get? c = some o → h8.get? c = some o:=fun c o c1 e => hs8.extBut _ _ c1 (hs7.extBut _ _ c1 (Heap.get?_push_of_some _ e))
  have hT8 : IsPair h8 he.objs.size x y:=hs8.extBut _ _ (Nat.ne_of_gt zlt) (hs7.extBut _ _ (Nat.ne_of_gt zlt) (Heap.get?_push_size _ rfl))
  have hs8' : h8.objs.size = he.objs.size + 1:=by rw [hs8.1,hs7.1,Heap.size_push]
  show Q (.ref he.objs.size) _
  rw [hsz] at hz8 hT8 hs8' ⊢
  exact hQ x y h8 tkd _ _ _ _ px py hz8 ⟨.inr ⟨_,_,rfl⟩,_,rfl⟩ (up _ _ Z.zTI (kk _ _ Z.zTI Z.TT Z.T1 Z.T2 hTI)) (up _ _ Z.zTO hTOe) (D1.frame _ _ _ st1e fun c hcf o e => up c o (fun q => Z.a1 (q ▸ hcf)) e) (D2.frame _ _ _ st2e fun c hcf o e => up c o (fun q => Z.b1 (q ▸ hcf)) e) hT8 hs8' fun c o c1 c2 c3 c4 e => up c o c1 (kk c o c1 c2 c3 c4 e)
 ·simp only [Bool.false_eq_true,if_false]; replace hs0 : Heap.SameBut z hp h0:=hs0
  rw [show (#[Value.ref i1,Value.ref i2] : Array Value) = [Value.ref i1,Value.ref i2].toArray from rfl]
  simp only [List.forIn_toArray,List.forIn_cons,List.forIn_nil]
  refine wpAny_bind (wpAny_bind (wpAny_bind (wpAny_holding ?_))); show wpAny _ _ (Builtin.SmallTypes.nextOf (.ref i1) >>= _) _ _ _
  refine wpAny_bind (D1.item k1 _ _ _ l1 (D1.frame _ _ _ st1 fun c hc o e => hs0.extBut c o (fun q => Z.a1 (q ▸ hc)) e) fun x hb tkb px stb hsb => wpAny_pure (wpAny_pure ?_))
  replace hsb : Heap.SameBut i1 h0 hb:=hsb
  refine wpAny_bind (wpAny_bind (wpAny_holding ?_)); show wpAny _ _ (Builtin.SmallTypes.nextOf (.ref i2) >>= _) _ _ _
  refine wpAny_bind (D2.item k2 _ _ _ l2 (D2.frame _ _ _ st2 fun c hcf o e => hsb.extBut c o (fun q => Z.b3 (q ▸ hcf)) (hs0.extBut c o (fun q => Z.b1 (q ▸ hcf)) e)) fun y hd tkd py std hsd => wpAny_pure (wpAny_pure (wpAny_pure ?_)))
  replace hsd : Heap.SameBut i2 hb hd:=hsd
  show wpAny _ _ (newTuple [x,y] >>= _) _ _ _
  refine wpAny_bind (wpAny_newTuple (wpAny_pure ⟨_,rfl,?_⟩))
  have hsz : hd.objs.size = hp.objs.size:=by rw [hsd.1,hsb.1,hs0.1]
  have kk : ∀ c o,c ≠ z → c ≠ TO → c ≠ i1 → c ≠ i2 → hp.get? c = some o → hd.get? c = some o:=fun c o c1 c2 c3 c4 e => hsd.extBut _ _ c4 (hsb.extBut _ _ c3 (hs0.extBut _ _ c1 e))
  have hzd : IsZ hd z TI TO f0 (.bool true):=hsd.extBut _ _ Z.z2.symm (hsb.extBut _ _ Z.z1.symm hz0)
  have hTOd : IsPair hd TO a b:=hsd.extBut _ _ Z.O2 (hsb.extBut _ _ Z.O1 (hs0.extBut _ _ Z.zTO hTO))
  have st1d : S1 (k1 + 1) hd:=D1.frame _ _ _ stb fun c hcf o e => hsd.extBut c o (fun q => Z.a3 (q ▸ hcf)) e
  have up : ∀ c o,hd.get? c = some o → (hd.push { cls:=.type "tuple",data:=.seq #[x,y] }).get? c = some o:=fun c o e => Heap.get?_push_of_some _ e
  have hT8 : IsPair (hd.push { cls:=.type "tuple",data:=.seq #[x,y] }) hd.objs.size x y:=Heap.get?_push_size _ rfl
  have hs8' : (hd.push { cls:=.type "tuple",data:=.seq #[x,y] }).objs.size = hd.objs.size + 1:=Heap.size_push ..
  show Q (.ref hd.objs.size) _
  rw [hsz] at hT8 hs8' ⊢
  exact hQ x y _ tkd _ _ _ _ px py (up _ _ hzd) ⟨hf.1,_,rfl⟩ (up _ _ (kk _ _ Z.zTI Z.TT Z.T1 Z.T2 hTI)) (up _ _ hTOd) (D1.frame _ _ _ st1d fun c _ o e => up c o e) (D2.frame _ _ _ std fun c _ o e => up c o e) hT8 hs8' fun c o c1 c2 c3 c4 e => up c o (kk c o c1 c2 c3 c4 e)
theorem ziN {z TI TO i1 i2 : Addr} {fp1 fp2 : List Addr} {n1 n2 k1 k2 : Nat} {P1 P2 : Nat → Value → Prop} {S1 S2 : Nat → Heap → Prop} {f0 f1 a b : Value} {Q : Fin → Shared → Prop} (D1 : Draws prog w A i1 fp1 n1 P1 S1) (D2 : Draws prog w A i2 fp2 n2 P2 S2) (Z : Zap z TI TO i1 i2 fp1 fp2)
  (hz : IsZ s.heap z TI TO f0 f1) (hf : ZF f0 f1) (hTI : IsPair s.heap TI (.ref i1) (.ref i2)) (hTO : IsPair s.heap TO a b) (st1 : S1 k1 s.heap) (st2 : S2 k2 s.heap) (l1 : k1 = n1 ∨ (k1 < n1 ∧ k2 = n2))
  (hE : ∀ h' tk e,(∀ c o,c ≠ z → c ≠ TO → c ≠ i1 → c ≠ i2 → s.heap.get? c = some o → h'.get? c = some o) → (∃ o,h'.get? e = some o ∧ o.cls = .type "StopIteration") → E (.ref e) { s with heap:=h',toks:=tk }) : wpAny (model prog w) A (Builtin.«zip.__next__» ⟨[.ref z],[]⟩) Q E s:=by
 obtain ⟨hp,g,d,tk0,os⟩:=s
 have nz : ∀ {h : Heap} {e : Addr} {o : Obj} {x y : Value},IsZ h z TI TO x y → h.get? e = some o → o.cls = .type "StopIteration" → e ≠ z:=fun h1 h2 h3 q => by subst q; rw [h1] at h2; cases h2; simp at h3
 show wpAny _ _ (field (.ref z) 2 >>= _) _ _ _; refine wpAny_bind (wpAny_field hz rfl (x:=.bool false) rfl ?_); show wpAny _ _ (field (.ref z) 3 >>= _) _ _ _
 refine wpAny_bind (wpAny_field hz rfl (x:=.ref TI) rfl ?_); refine wpAny_bind (wpAny_seqItems hTI rfl ?_)
 show wpAny _ _ (Builtin.SmallTypes.ownedTupleIsFree (.ref z) >>= _) _ _ _; refine wpAny_bind (ziM hz hf ?_ fun h0 hz0 hs0 => ?_)
 ·simp only [if_true]
  refine wpAny_bind (wpAny_rule (wpAny_bind (wpAny_field hz rfl (x:=.ref TO) rfl ?_)))
  refine wpAny_bind (wpAny_setField_rec hz (by simp) fun ha hza hsa => ?_)
  replace hza : IsZ ha z TI TO .ellipsis f1:=hza
  replace hsa : Heap.SameBut z hp ha:=hsa
  refine wpAny_bind ?_
  simp only [List.zipIdx_cons,List.zipIdx_nil,List.forIn_cons,List.forIn_nil]; refine wpAny_bind (wpAny_bind (wpAny_onRaise ?_)); show wpAny _ _ (Builtin.SmallTypes.nextOf (.ref i1) >>= _) _ _ _
  have st1a : S1 k1 ha:=D1.frame _ _ _ st1 fun c hc o e => hsa.extBut c o (fun q => Z.a1 (q ▸ hc)) e
  rcases l1 with rfl | ⟨l1,rfl⟩
  ·refine wpAny_bind (D1.done _ _ _ st1a fun hb e hsb ⟨oe,hoe,hce⟩ => ?_)
   have hzb : IsZ hb z TI TO .ellipsis f1:=hsb _ _ Z.z1.symm hza
   exact wpAny_setField_rec hzb (by simp) fun h3 _ hs3 => hE h3 tk0 e (fun c o c1 _ c3 _ x => hs3.extBut _ _ c1 (hsb _ _ c3 (hsa.extBut _ _ c1 x))) ⟨oe,hs3.extBut _ _ (nz hzb hoe hce) hoe,hce⟩
  ·refine wpAny_bind (D1.item k1 _ _ _ l1 st1a fun x hb tkb px stb hsb => wpAny_pure ?_)
   replace hsb : Heap.SameBut i1 ha hb:=hsb
   have hTOb : IsPair hb TO a b:=hsb.extBut _ _ Z.O1 (hsa.extBut _ _ Z.zTO hTO)
   refine wpAny_bind (wpAny_seqItems hTOb rfl (wpAny_bind (wpAny_updateSeq_pair hTOb fun hc hTOc hsc => ?_)))
   replace hsc : Heap.SameBut TO hb hc:=hsc
   refine wpAny_bind (wpAny_letGo (wpAny_pure (wpAny_bind (wpAny_bind (wpAny_onRaise ?_))))); show wpAny _ _ (Builtin.SmallTypes.nextOf (.ref i2) >>= _) _ _ _
   refine wpAny_bind (D2.done _ _ _ (D2.frame _ _ _ st2 fun c hcf o e => hsc.extBut c o (fun q => Z.b2 (q ▸ hcf)) (hsb.extBut c o (fun q => Z.b3 (q ▸ hcf)) (hsa.extBut c o (fun q => Z.b1 (q ▸ hcf)) e))) fun hd e hsd ⟨oe,hoe,hce⟩ => ?_)
   have hzd : IsZ hd z TI TO .ellipsis f1:=hsd _ _ Z.z2.symm (hsc.extBut _ _ Z.zTO.symm (hsb.extBut _ _ Z.z1.symm hza))
   exact wpAny_setField_rec hzd (by simp) fun h3 _ hs3 => hE h3 tkb e (fun c o c1 c2 c3 c4 x => hs3.extBut _ _ c1 (hsd _ _ c4 (hsc.extBut _ _ c2 (hsb.extBut _ _ c3 (hsa.extBut _ _ c1 x))))) ⟨oe,hs3.extBut _ _ (nz hzd hoe hce) hoe,hce⟩
 ·simp only [Bool.false_eq_true,if_false]; replace hs0 : Heap.SameBut z hp h0:=hs0
  rw [show (#[Value.ref i1,Value.ref i2] : Array Value) = [Value.ref i1,Value.ref i2].toArray from rfl]
  simp only [List.forIn_toArray,List.forIn_cons,List.forIn_nil]
  refine wpAny_bind (wpAny_bind (wpAny_bind (wpAny_holding ?_))); show wpAny _ _ (Builtin.SmallTypes.nextOf (.ref i1) >>= _) _ _ _
  have st1a : S1 k1 h0:=D1.frame _ _ _ st1 fun c hc o e => hs0.extBut c o (fun q => Z.a1 (q ▸ hc)) e
  rcases l1 with rfl | ⟨l1,rfl⟩
  ·exact wpAny_bind (D1.done _ _ _ st1a fun hb e hsb he => hE hb tk0 e (fun c o c1 _ c3 _ x => hsb _ _ c3 (hs0.extBut _ _ c1 x)) he)
  ·refine wpAny_bind (D1.item k1 _ _ _ l1 st1a fun x hb tkb px stb hsb => wpAny_pure (wpAny_pure ?_))
   replace hsb : Heap.SameBut i1 h0 hb:=hsb
   refine wpAny_bind (wpAny_bind (wpAny_holding ?_)); show wpAny _ _ (Builtin.SmallTypes.nextOf (.ref i2) >>= _) _ _ _
   exact wpAny_bind (D2.done _ _ _ (D2.frame _ _ _ st2 fun c hcf o e => hsb.extBut c o (fun q => Z.b3 (q ▸ hcf)) (hs0.extBut c o (fun q => Z.b1 (q ▸ hcf)) e)) fun hd e hsd he => hE hd tkb e (fun c o c1 _ c3 c4 x => hsd _ _ c4 (hsb.extBut _ _ c3 (hs0.extBut _ _ c1 x))) he)
theorem zjS {e z TI TO i1 i2 : Addr} {fp1 fp2 : List Addr} {n1 n2 i : Nat} {P1 P2 : Nat → Value → Prop} {S1 S2 : Nat → Heap → Prop} {f0 f1 a b old : Value} {Q : Option Value → Shared → Prop} (D1 : Draws prog w A.in1.in1 i1 fp1 n1 P1 S1) (D2 : Draws prog w A.in1.in1 i2 fp2 n2 P2 S2) (Z : Zap z TI TO i1 i2 fp1 fp2)
  (he : IsEnum s.heap e z i old) (ez : e ≠ z) (eT : e ≠ TI) (eO : e ≠ TO) (e1 : e ≠ i1) (e2 : e ≠ i2) (ef1 : e ∉ fp1) (ef2 : e ∉ fp2)
  (hz : IsZ s.heap z TI TO f0 f1) (hf : ZF f0 f1) (hTI : IsPair s.heap TI (.ref i1) (.ref i2)) (hTO : IsPair s.heap TO a b) (st1 : S1 i s.heap) (st2 : S2 i s.heap) (l1 : i < n1) (l2 : i < n2)
  (hQ : ∀ x y h' tk g0 g1 a' b',P1 i x → P2 i y → IsEnumOut h' e z ((i : Int) + 1) (.ref s.heap.objs.size) (s.heap.objs.size + 1) → IsZ h' z TI TO g0 g1 → ZF g0 g1 → IsPair h' TI (.ref i1) (.ref i2) → IsPair h' TO a' b' → S1 (i + 1) h' → S2 (i + 1) h' → IsPair h' s.heap.objs.size x y →
   IsPair h' (s.heap.objs.size + 1) (.int i tk) (.ref s.heap.objs.size) → h'.objs.size = s.heap.objs.size + 2 →
   (∀ c o,c ≠ e → c ≠ z → c ≠ TO → c ≠ i1 → c ≠ i2 → s.heap.get? c = some o → h'.get? c = some o) → Q (some (.ref (s.heap.objs.size + 1))) { s with heap:=h',toks:=tk + 1 }) : wpAny (model prog w) A (pyNext (.ref e)) Q E s:=by
 have hT : s.TypeIs (.ref e) "enumerate":=⟨_,he,rfl⟩; have hTz : s.TypeIs (.ref z) "zip":=⟨_,hz,rfl⟩
 unfold pyNext
 refine wpAny_bind (wpAny_attempt (wpAny_callSpecial?_slot (name:=Str.ofString "__next__") hT F.slot_enumerate_next (wpAny_call_entry F.slot_enumerate_next hT F.entry_enumerate_next ?_ (F.args_enumerate_next_1 _))))
 obtain ⟨hp,g,d,tk0,os⟩:=s
 show wpAny _ _ (field (.ref e) 2 >>= _) _ _ _; refine wpAny_bind (wpAny_field he rfl (x:=.ref z) rfl (wpAny_bind ?_))
 unfold Builtin.SmallTypes.nextOf; refine wpAny_bind (wpAny_callSpecial?_slot (name:=Str.ofString "__next__") hTz F.slot_zip_next (wpAny_call_entry F.slot_zip_next hTz F.entry_zip_next ?_ (F.args_zip_next_1 _)))
 refine zgT D1 D2 Z hz hf hTI hTO st1 st2 l1 l2 fun x y h1 tk g0 g1 a' b' px py hz1 hf1 hTI1 hTO1 st1' st2' hp1 hsz1 kk => wpAny_pure ?_
 have he1 : IsEnum h1 e z i old:=kk _ _ ez eO e1 e2 he
 have elt : e < hp.objs.size:=Heap.lt_size he
 show wpAny _ _ (field (.ref e) 3 >>= _) _ _ ⟨h1,g,d,tk,os⟩; refine wpAny_bind (wpAny_field he1 rfl (x:=rawInt i) rfl ?_)
 show wpAny _ _ (field (.ref e) 4 >>= _) _ _ ⟨h1,g,d,tk,os⟩; refine wpAny_bind (wpAny_field he1 rfl (x:=.none) rfl ?_)
 show wpAny _ _ (mkInt i >>= _) _ _ ⟨h1,g,d,tk,os⟩; refine wpAny_bind (wpAny_mkInt ?_)
 show wpAny _ _ (setField (.ref e) 3 (rawInt ((i : Int) + 1)) >>= _) _ _ ⟨h1,g,d,tk + 1,os⟩; refine wpAny_bind (wpAny_setField_rec he1 (by simp) fun h2 he2 hs2 => ?_)
 replace hs2 : Heap.SameBut e h1 h2:=hs2
 replace he2 : IsEnum h2 e z ((i : Int) + 1) old:=he2
 show wpAny _ _ (setField (.ref e) 4 .none >>= _) _ _ ⟨h2,g,d,tk + 1,os⟩; refine wpAny_bind (wpAny_setField_rec he2 (by simp) fun h3 he3 hs3 => ?_)
 replace hs3 : Heap.SameBut e h2 h3:=hs3
 replace he3 : IsEnum h3 e z ((i : Int) + 1) old:=he3
 show wpAny _ _ (newTuple [.int i tk,.ref hp.objs.size] >>= _) _ _ ⟨h3,g,d,tk + 1,os⟩; refine wpAny_bind (wpAny_newTuple ?_)
 have z3 : h3.objs.size = hp.objs.size + 1:=by rw [hs3.1,hs2.1]; exact hsz1
 rw [z3]
 have he4 : IsEnum (h3.push { cls:=.type "tuple",data:=.seq #[.int i tk,.ref hp.objs.size] }) e z ((i : Int) + 1) old:=Heap.get?_push_of_some _ he3
 have ht4:=Heap.get?_push_size h3 (o:={ cls:=.type "tuple",data:=.seq #[.int i tk,.ref hp.objs.size] }) rfl
 rw [z3] at ht4
 have k4 : ∀ c o,c ≠ e → h1.get? c = some o → (h3.push { cls:=.type "tuple",data:=.seq #[.int i tk,.ref hp.objs.size] }).get? c = some o:=fun c o ce x => Heap.get?_push_of_some _ (hs3.extBut c o ce (hs2.extBut c o ce x))
 have z4 : (h3.push { cls:=.type "tuple",data:=.seq #[.int i tk,.ref hp.objs.size] }).objs.size = hp.objs.size + 2:=by rw [Heap.size_push,z3]
 generalize h3.push { cls:=.type "tuple",data:=.seq #[.int i tk,.ref hp.objs.size] } = h4 at he4 ht4 k4 z4 ⊢
 show wpAny _ _ (Builtin.SmallTypes.ownedTupleIsFree (.ref e) >>= _) _ _ ⟨h4,g,d,tk + 1,os⟩
 refine wpAny_bind ?_
 unfold Builtin.SmallTypes.ownedTupleIsFree; refine wpAny_bind (wpAny_field he4 rfl (x:=.none) rfl (wpAny_pure ?_))
 simp only [if_true]; refine wpAny_bind (wpAny_rule (wpAny_bind (wpAny_field he4 rfl (x:=old) rfl ?_)))
 refine wpAny_bind (wpAny_setField_rec he4 (by simp) fun h5 he5 hs5 => ?_)
 replace hs5 : Heap.SameBut e h4 h5:=hs5
 replace he5 : IsEnum h5 e z ((i : Int) + 1) (.ref hp.objs.size):=he5
 show wpAny _ _ (Builtin.SmallTypes.ownedTupleHandOut (.ref e) (.ref (hp.objs.size + 1)) >>= _) _ _ ⟨h5,g,d,tk + 1,os⟩
 refine wpAny_bind ?_
 unfold Builtin.SmallTypes.ownedTupleHandOut; refine wpAny_bind (wpAny_setField_rec he5 (by simp) fun h6 he6 hs6 => ?_)
 replace hs6 : Heap.SameBut e h5 h6:=hs6
 replace he6 : IsEnumOut h6 e z ((i : Int) + 1) (.ref hp.objs.size) (hp.objs.size + 1):=he6
 refine wpAny_setField_rec he6 (by simp) fun h7 he7 hs7 => ?_
 replace hs7 : Heap.SameBut e h6 h7:=hs7
 replace he7 : IsEnumOut h7 e z ((i : Int) + 1) (.ref hp.objs.size) (hp.objs.size + 1):=he7
 have up : ∀ c o,c ≠ e → h4.get? c = some o → h7.get? c = some o:=fun c o ce x => hs7.extBut c o ce (hs6.extBut c o ce (hs5.extBut c o ce x))
 have z7 : h7.objs.size = hp.objs.size + 2:=by rw [hs7.1,hs6.1,hs5.1,z4]
 refine wpAny_bind (wpAny_letGo (wpAny_pure ⟨_,rfl,wpAny_pure ?_⟩))
 exact hQ x y h7 tk g0 g1 a' b' px py he7 (up _ _ ez.symm (k4 _ _ ez.symm hz1)) hf1 (up _ _ eT.symm (k4 _ _ eT.symm hTI1)) (up _ _ eO.symm (k4 _ _ eO.symm hTO1))
  (D1.frame _ _ _ st1' fun c hc o x => up c o (fun q => ef1 (q ▸ hc)) (k4 c o (fun q => ef1 (q ▸ hc)) x)) (D2.frame _ _ _ st2' fun c hc o x => up c o (fun q => ef2 (q ▸ hc)) (k4 c o (fun q => ef2 (q ▸ hc)) x))
  (up _ _ (Nat.ne_of_gt elt) (k4 _ _ (Nat.ne_of_gt elt) hp1)) (up _ _ (Nat.ne_of_gt (Nat.lt_succ_of_lt elt)) ht4) z7 fun c o ce cz cO c1 c2 x => up c o ce (k4 c o ce (kk c o cz cO c1 c2 x))
theorem zk4 {e z TI TO i1 i2 : Addr} {fp1 fp2 : List Addr} {n1 n2 k : Nat} {i : Int} {P1 P2 : Nat → Value → Prop} {S1 S2 : Nat → Heap → Prop} {f0 f1 a b old : Value} {Q : Option Value → Shared → Prop} (D1 : Draws prog w A.in1.in1 i1 fp1 n1 P1 S1) (D2 : Draws prog w A.in1.in1 i2 fp2 n2 P2 S2) (Z : Zap z TI TO i1 i2 fp1 fp2)
  (he : IsEnum s.heap e z i old) (hz : IsZ s.heap z TI TO f0 f1) (hf : ZF f0 f1) (hTI : IsPair s.heap TI (.ref i1) (.ref i2)) (hTO : IsPair s.heap TO a b) (st1 : S1 k s.heap) (st2 : S2 k s.heap) (l1 : k = n1 ∨ (k < n1 ∧ k = n2))
  (hQ : ∀ h' tk,(∀ c o,c ≠ z → c ≠ TO → c ≠ i1 → c ≠ i2 → s.heap.get? c = some o → h'.get? c = some o) → Q none { s with heap:=h',toks:=tk }) : wpAny (model prog w) A (pyNext (.ref e)) Q E s:=by
 have hT : s.TypeIs (.ref e) "enumerate":=⟨_,he,rfl⟩; have hTz : s.TypeIs (.ref z) "zip":=⟨_,hz,rfl⟩
 unfold pyNext
 refine wpAny_bind (wpAny_attempt (wpAny_callSpecial?_slot (name:=Str.ofString "__next__") hT F.slot_enumerate_next (wpAny_call_entry F.slot_enumerate_next hT F.entry_enumerate_next ?_ (F.args_enumerate_next_1 _))))
 show wpAny _ _ (field (.ref e) 2 >>= _) _ _ _; refine wpAny_bind (wpAny_field he rfl (x:=.ref z) rfl (wpAny_bind ?_))
 unfold Builtin.SmallTypes.nextOf; refine wpAny_bind (wpAny_callSpecial?_slot (name:=Str.ofString "__next__") hTz F.slot_zip_next (wpAny_call_entry F.slot_zip_next hTz F.entry_zip_next ?_ (F.args_zip_next_1 _)))
 refine ziN D1 D2 Z hz hf hTI hTO st1 st2 l1 fun h' tk x kk ⟨o,ho,hc⟩ => ?_
 exact wpAny_bind (wpAny_isInstance (T:="StopIteration") (b:=true) ⟨o,ho,hc⟩ isSubtype_stop (wpAny_pure (hQ h' tk kk)))
end
end PySem
namespace PySem
def zkv (l : Addr) : Obj:={ cls:=.type "list_iterator",data:=.fields #[.ref l,.int 0 0] }
def zeU (x y : Value) : Obj:={ cls:=.type "tuple",data:=.seq #[x,y] }
def zlT (a b : Addr) : Obj:={ cls:=.type "zip",data:=.fields #[.none,.bool false,.bool false,.ref a,.ref b] }
abbrev zt2 (h : Heap) (l1 l2 : Addr) : Heap:=(h.push (zbL l1)).push (zkv l2)
abbrev zt4 (h : Heap) (l1 l2 : Addr) : Heap:=((zt2 h l1 l2).push (zeU (.ref h.objs.size) (.ref (h.push (zbL l1)).objs.size))).push (zeU .none .none)
abbrev zt5 (h : Heap) (l1 l2 : Addr) : Heap:=(zt4 h l1 l2).push (zlT (zt2 h l1 l2).objs.size ((zt2 h l1 l2).push (zeU (.ref h.objs.size) (.ref (h.push (zbL l1)).objs.size))).objs.size)
theorem zfw (l1 l2 : Addr) (xs ys : Array Value) : Meets (Builtin.«zip.__new__» ⟨[.type "zip",.ref l1,.ref l2],[]⟩) (fun _ R s => s.heap.IsTuple l1 xs ∧ s.heap.IsList l2 ys ∧ R (.ok (.ret (.ref (zt4 s.heap l1 l2).objs.size))) { s with heap:=zt5 s.heap l1 l2 }) :=
 .of_wp fun prog w A R s h => by
  obtain ⟨hp,g,d,tk,os⟩:=s; obtain ⟨hl1,hl2,h⟩:=h; have hsub:=sub_zip
  have hL1 : Heap.IsTuple (Shared.heap ⟨hp,g,d,tk,os⟩) l1 xs:=hl1
  have hL2 : Heap.IsList (Shared.heap ⟨hp.push { cls:=.type "tuple_iterator",data:=.fields #[.ref l1,.int 0 0] },g,d,tk,os⟩) l2 ys:=Heap.IsList.push hl2 _
  wp_walk using wpAny_pyIter_tuple hL1,wpAny_pyIter_list hL2
  exact ⟨_,rfl,h⟩
section
variable {prog : Program} {w : World} {A : Around} {E : Value → Shared → Prop} {s : Shared}
theorem zdB {l1 l2 : Addr} {xs ys : Array Value} {Q : Value → Shared → Prop} (hl1 : s.heap.IsTuple l1 xs) (hl2 : s.heap.IsList l2 ys)
  (h : ∀ h' n,n = s.heap.objs.size → IsZ h' (n + 4) (n + 2) (n + 3) .none (.bool false) → IsPair h' (n + 2) (.ref n) (.ref (n + 1)) → IsPair h' (n + 3) .none .none → h'.IsTupleIter n l1 0 → h'.IsListIter (n + 1) l2 0 → h'.objs.size = n + 5 →
   (∀ c o,s.heap.get? c = some o → h'.get? c = some o) → Q (.ref (n + 4)) { s with heap:=h' }) : wpAny (model prog w) A (call (.type "zip") [.ref l1,.ref l2]) Q E s:=by
 refine callType_new F.called_zip (by decide) (F.typeCall_zip_2 _ _) (F.newCall_zip_2 _ _) (fun obj => F.args_object_init_3 obj _ _) F.entry_zip_new (zfw l1 l2 xs ys) ⟨hl1,hl2,?_⟩
 have z1 : (s.heap.push (zbL l1)).objs.size = s.heap.objs.size + 1:=Heap.size_push ..
 have z2 : (zt2 s.heap l1 l2).objs.size = s.heap.objs.size + 2:=by rw [Heap.size_push,z1]
 have z3 : ((zt2 s.heap l1 l2).push (zeU (.ref s.heap.objs.size) (.ref (s.heap.push (zbL l1)).objs.size))).objs.size = s.heap.objs.size + 3:=by rw [Heap.size_push,z2]
 have z4 : (zt4 s.heap l1 l2).objs.size = s.heap.objs.size + 4:=by rw [Heap.size_push,z3]
 have g5:=Heap.get?_push_size (zt4 s.heap l1 l2) (o:=zlT (zt2 s.heap l1 l2).objs.size ((zt2 s.heap l1 l2).push (zeU (.ref s.heap.objs.size) (.ref (s.heap.push (zbL l1)).objs.size))).objs.size) rfl
 have g4 : (zt5 s.heap l1 l2).get? _ = some _:=Heap.get?_push_of_some _ (Heap.get?_push_size ((zt2 s.heap l1 l2).push (zeU (.ref s.heap.objs.size) (.ref (s.heap.push (zbL l1)).objs.size))) (o:=zeU .none .none) rfl)
 have g3 : (zt5 s.heap l1 l2).get? _ = some _:=Heap.get?_push_of_some _ (Heap.get?_push_of_some _ (Heap.get?_push_size (zt2 s.heap l1 l2) (o:=zeU (.ref s.heap.objs.size) (.ref (s.heap.push (zbL l1)).objs.size)) rfl))
 have g2 : (zt5 s.heap l1 l2).get? _ = some _:=Heap.get?_push_of_some _ (Heap.get?_push_of_some _ (Heap.get?_push_of_some _ (Heap.get?_push_size (s.heap.push (zbL l1)) (o:=zkv l2) rfl)))
 have g1 : (zt5 s.heap l1 l2).get? s.heap.objs.size = some (zbL l1):=Heap.get?_push_of_some _ (Heap.get?_push_of_some _ (Heap.get?_push_of_some _ (Heap.get?_push_of_some _ (Heap.get?_push_size _ rfl))))
 have z5 : (zt5 s.heap l1 l2).objs.size = s.heap.objs.size + 5:=by rw [Heap.size_push,z4]
 have k5 : ∀ c o,s.heap.get? c = some o → (zt5 s.heap l1 l2).get? c = some o:=fun c o x => Heap.get?_push_of_some _ (Heap.get?_push_of_some _ (Heap.get?_push_of_some _ (Heap.get?_push_of_some _ (Heap.get?_push_of_some _ x))))
 show _ ∧ _
 rw [z4] at g5 ⊢
 rw [z3] at g4
 rw [z2] at g3
 rw [z1] at g2
 refine ⟨⟨_,g5,rfl⟩,h _ _ rfl ?_ ?_ g4 ⟨_,g1,rfl,rfl⟩ ⟨_,g2,rfl,rfl⟩ z5 k5⟩
 ·have : IsZ (zt5 s.heap l1 l2) (s.heap.objs.size + 4) (zt2 s.heap l1 l2).objs.size ((zt2 s.heap l1 l2).push (zeU (.ref s.heap.objs.size) (.ref (s.heap.push (zbL l1)).objs.size))).objs.size .none (.bool false):=g5
  rw [z2,z3] at this
  exact this
 ·have : IsPair (zt5 s.heap l1 l2) (s.heap.objs.size + 2) (.ref s.heap.objs.size) (.ref (s.heap.push (zbL l1)).objs.size):=g3
  rw [z1] at this
  exact this
end
open AutoSeq1 (wpAny_loadPart') in
theorem zfx (z TI TO : Addr) (f0 : Value) : Meets (Builtin.«enumerate.__new__» ⟨[.type "enumerate",.ref z],[]⟩) (fun _ R s => IsZip s.heap z TI TO f0 ∧ R (.ok (.ret (.ref s.heap.objs.size))) { s with heap:=s.heap.push (ziA z) }) :=
 .of_wp fun prog w A R s h => by
  obtain ⟨hp,g,d,tk,os⟩:=s; obtain ⟨hz,h⟩:=h
  have hZ : IsZip (Shared.heap ⟨hp,g,d,tk,os⟩) z TI TO f0:=hz
  have hsub:=sub_enumerate; wp_walk using wpAny_loadPart' hz
  refine wpAny_stack_any fun st => wpAny_pure ?_; split
  ·rename_i c _ _ _ _ _; cases (c == Value.type "enumerate") <;> (wp_walk using wpAny_loadPart' hz,wpAny_pyIter_zip hZ; exact ⟨_,rfl,h⟩)
  ·wp_walk using wpAny_loadPart' hz,wpAny_pyIter_zip hZ; exact ⟨_,rfl,h⟩
theorem zgm {prog : Program} {w : World} {A : Around} {E : Value → Shared → Prop} {s : Shared} {z TI TO : Addr} {f0 : Value} {Q : Value → Shared → Prop} (hz : IsZip s.heap z TI TO f0)
  (h : ∀ h',IsEnum h' s.heap.objs.size z 0 .none → h'.objs.size = s.heap.objs.size + 1 → (∀ b o,s.heap.get? b = some o → h'.get? b = some o) → Q (.ref s.heap.objs.size) { s with heap:=h' }) : wpAny (model prog w) A (call (.type "enumerate") [.ref z]) Q E s:=by
 refine callType_new F.called_enumerate (by decide) (F.typeCall_enumerate_1 _) (F.newCall_enumerate_1 _) (fun obj => F.args_object_init_2 obj _) F.entry_enumerate_new (zfx z TI TO f0) ⟨hz,?_⟩
 have he:=Heap.get?_push_size s.heap (o:=ziA z) rfl
 exact ⟨⟨_,he,rfl⟩,h _ he (Heap.size_push ..) fun b o x => Heap.get?_push_of_some _ x⟩
end PySem
end
section
set_option maxHeartbeats 3999000
namespace L2
open PySem PySem.Spec PyProof.Rows
def zjT (Sq1 Sq2 : Hp → Addr → List V → Prop) (a b : Addr) : It :=
 ⟨fun i H => ∃ xs ys x y,Sq1 H a xs ∧ Sq2 H b ys ∧ xs[i]? = some x ∧ ys[i]? = some y,
  fun i H x H' => ∃ T1 T2 u v,H T1 = none ∧ H T2 = none ∧ T1 ≠ T2 ∧ x = .ref T2 ∧ H' = upd (upd H T1 (.tup [u,v])) T2 (.tup [.int i,.ref T1]) ∧ (∀ xs,Sq1 H a xs → xs[i]? = some u) ∧ ∀ ys,Sq2 H b ys → ys[i]? = some v,
  fun i H => ∃ xs ys,Sq1 H a xs ∧ Sq2 H b ys ∧ xs.length = i⟩
abbrev zdC (n : Nat) : List Addr:=[n + 5,n + 4,n + 2,n + 3,n,n + 1]
abbrev zk5 (n a b : Nat) (i : Nat) (h : Heap) : Prop:=(∃ old,IsEnum h (n + 5) (n + 4) i old) ∧ (∃ f0 f1,IsZ h (n + 4) (n + 2) (n + 3) f0 f1 ∧ ZF f0 f1) ∧ IsPair h (n + 2) (.ref n) (.ref (n + 1)) ∧ (∃ u v,IsPair h (n + 3) u v) ∧ h.IsTupleIter n a i ∧ h.IsListIter (n + 1) b i
theorem nq {x y : Nat} (h : x ≠ y) : @Ne Addr x y:=h
theorem nl {x y : Nat} (h : x < y) : @LT.lt Nat _ x y:=h
theorem nm2 {c x y : Nat} (h1 : c ≠ x) (h2 : c ≠ y) : ¬ @Membership.mem Addr (List Addr) _ [x,y] c:=fun h => by
 rcases List.mem_cons.mp h with e | e
 ·exact h1 e
 ·exact h2 (List.mem_singleton.mp e)
theorem zde {n a b : Nat} (ha : a < n) (hb : b < n) : Zap (n + 4) (n + 2) (n + 3) n (n + 1) [n,a] [n + 1,b] :=
 ⟨nq (by omega),nq (by omega),nq (by omega),nq (by omega),nq (by omega),nq (by omega),nq (by omega),nq (by omega),nq (by omega),nq (by omega),nm2 (by omega) (by omega),nm2 (by omega) (by omega),nm2 (by omega) (by omega),nm2 (by omega) (by omega),nm2 (by omega) (by omega),nm2 (by omega) (by omega)⟩
theorem zjU {P : Program} {w : World} {K : PySem.W.Frag} {es : List Expr} {k : Nat} {pos : Pos} (a b n : Nat) (ha : a < n) (hb : b < n) : Turn P w K (.Tuple es k pos) (zjT (SqT K) (SqL K) a b) (zdC n) (n + 5) (zk5 n a b) where
 mem:=by simp
 obj:=fun i h st c hc => by
  obtain ⟨⟨old,h0⟩,⟨f0,f1,h1,_⟩,h2,⟨u,v,h3⟩,⟨o4,e4,_,d4⟩,⟨o5,e5,_,d5⟩⟩:=st
  simp only [zdC,List.mem_cons,List.not_mem_nil,or_false] at hc
  rcases hc with z | z | z | z | z | z <;> subst z
  ·exact ⟨_,h0,fun v z => by cases z⟩
  ·exact ⟨_,h1,fun v z => by cases z⟩
  ·exact ⟨_,h2,fun v z => by cases z⟩
  ·exact ⟨_,h3,fun v z => by cases z⟩
  ·exact ⟨_,e4,fun v z => by rw [d4] at z; cases z⟩
  ·exact ⟨_,e5,fun v z => by rw [d5] at z; cases z⟩
 keep:=fun i h h' st kk => by
  obtain ⟨⟨old,h0⟩,⟨f0,f1,h1,hf⟩,h2,⟨u,v,h3⟩,h4,h5⟩:=st
  exact ⟨⟨old,kk _ (by simp) _ h0⟩,⟨f0,f1,kk _ (by simp) _ h1,hf⟩,kk _ (by simp) _ h2,⟨u,v,kk _ (by simp) _ h3⟩,h4.at fun o eo => kk _ (by simp) o eo,h5.at fun o eo => kk _ (by simp) o eo⟩
 item:=by
  intro X hP hw hK hc i pins s σ H E I hf st hg
  subst hP hw hK
  obtain ⟨xs,ys,x,y,hq1,hq2,hx,hy⟩:=hg
  obtain ⟨⟨old,h0⟩,⟨f0,f1,h1,hzf⟩,h2,⟨u0,v0,h3⟩,h4,h5⟩:=st
  obtain ⟨its1,rv1,p1,hz1⟩:=I.tuple hq1
  obtain ⟨its2,rv2,p2,hz2⟩:=I.list hq2
  obtain ⟨u,hu,ru⟩:=rv1.get hx
  obtain ⟨v,hv,rv⟩:=rv2.get hy
  have hes : n + 5 < s.heap.objs.size:=Heap.lt_size h0
  have hh : X.A.in1.in1.handled = none:=by simp [I.ok.hd hc]
  have hlt1 : i < its1.toArray.size:=by have:=(List.getElem?_eq_some_iff.mp hu).1; simpa using this
  have hlt2 : i < its2.toArray.size:=by have:=(List.getElem?_eq_some_iff.mp hv).1; simpa using this
  refine zjS (Draws.tuple hh n a (nq (by omega)) its1.toArray) (Draws.list hh (n + 1) b (nq (by omega)) its2.toArray) (zde ha hb) h0 (nq (by omega)) (nq (by omega)) (nq (by omega)) (nq (by omega)) (nq (by omega)) (nm2 (by omega) (by omega)) (nm2 (by omega) (by omega)) h1 hzf h2 h3 ⟨h4,(show s.heap.IsTuple a its1.toArray from p1)⟩ ⟨h5,p2.isList⟩ hlt1 hlt2
   fun x' y' h' tk g0 g1 a' b' px py eo ez ezf e2 e3 t4 t5 pp pe hsz kk => ?_
  have eu : x' = u:=by
   have e1 : its1[i]? = some x':=by simpa using px
   rw [hu] at e1; exact (Option.some.inj e1).symm
  have ev : y' = v:=by
   have e1 : its2[i]? = some y':=by simpa using py
   rw [hv] at e1; exact (Option.some.inj e1).symm
  subst eu ev
  have ch : ∀ c ∈ [n + 5,n + 4,n + 3,n,n + 1],c ∈ zdC n:=fun c hc' => by
   simp only [zdC,List.mem_cons,List.not_mem_nil,or_false] at hc' ⊢
   rcases hc' with z | z | z | z | z <;> subst z <;> simp
  have k1 : ∀ c o,c ∉ [n + 5,n + 4,n + 3,n,n + 1] → s.heap.get? c = some o → h'.get? c = some o:=fun c o hc' eo => by
   simp only [List.mem_cons,List.not_mem_nil,or_false,not_or] at hc'
   exact kk c o hc'.1 hc'.2.1 hc'.2.2.1 hc'.2.2.2.1 hc'.2.2.2.2 eo
  have th1 : ∀ c ∈ [n + 5,n + 4,n + 3,n,n + 1],∃ o,h'.get? c = some o:=fun c hc' => by
   simp only [List.mem_cons,List.not_mem_nil,or_false] at hc'
   rcases hc' with z | z | z | z | z <;> subst z
   ·exact ⟨_,eo⟩
   ·exact ⟨_,ez⟩
   ·exact ⟨_,e3⟩
   ·obtain ⟨o,e,_⟩:=t4.1; exact ⟨o,e⟩
   ·obtain ⟨o,e,_⟩:=t5.1; exact ⟨o,e⟩
  have I1 : Inv X pins σ (upd H s.heap.objs.size (.tup [x,y])) { s with heap:=h',toks:=tk + 1 } :=
   I.turnedNew k1 (fun c hc' => hf c (ch c hc')) th1 (Nat.le_refl _) ⟨zaJ,_,.cons ru (.cons rv .nil),zbE pp⟩
  have hn2 : H (s.heap.objs.size + 1) = none:=I.hok.fresh (Nat.le_succ _)
  have hn2' : upd H s.heap.objs.size (.tup [x,y]) (s.heap.objs.size + 1) = none:=by rw [zp (Nat.succ_ne_self _)]; exact hn2
  obtain ⟨_,a1,a2,a3,a4,a5⟩:=I.fpOk (H':=H) (Nat.le_succ s.heap.objs.size) hn2
  have I1' : Inv X pins σ (upd (upd H s.heap.objs.size (.tup [x,y])) (s.heap.objs.size + 1) (.tup [.int i,.ref s.heap.objs.size])) { s with heap:=h',toks:=tk + 1 } :=
   I1.track hn2' (Nat.le_trans I.sz (Nat.le_succ _)) (Ne.symm a1) a4 a5 ⟨zaJ,_,.cons ⟨tk,rfl⟩ (.cons rfl .nil),zbE pe⟩
  refine ⟨_,rfl,wpAny_letOwnedTupleGo_enum eo fun h'' he'' hs'' => ?_⟩
  have fr : ∀ c ∈ zdC n,upd (upd H s.heap.objs.size (.tup [x,y])) (s.heap.objs.size + 1) (.tup [.int i,.ref s.heap.objs.size]) c = none:=fun c hc' => by
   have hlt : c < s.heap.objs.size:=by
    simp only [zdC,List.mem_cons,List.not_mem_nil,or_false] at hc'
    rcases hc' with z | z | z | z | z | z <;> subst z <;> exact nl (by omega)
   rw [zp (Nat.ne_of_lt (Nat.lt_succ_of_lt hlt)),zp (Nat.ne_of_lt hlt)]
   exact (hf c hc').1
  have I2 : Inv X pins σ (upd (upd H s.heap.objs.size (.tup [x,y])) (s.heap.objs.size + 1) (.tup [.int i,.ref s.heap.objs.size])) { s with heap:=h'',toks:=tk + 1 } :=
   Inv.turnedL (s:={ s with heap:=h',toks:=tk + 1 }) (ch:=[n + 5]) (t':=tk + 1) I1' (fun c o hc' eo => hs''.extBut c o (by simpa using hc') eo) (fun c hc' => by
    have z : c = n + 5:=by simpa using hc'
    subst z
    exact ⟨fr _ (by simp),(hf _ (by simp)).2⟩) (fun c hc' => by
    have z : c = n + 5:=by simpa using hc'
    subst z
    exact ⟨_,he''⟩)
  have up : ∀ c o,c ≠ n + 5 → h'.get? c = some o → h''.get? c = some o:=fun c o hc' e => hs''.extBut c o hc' e
  exact ⟨.ref (s.heap.objs.size + 1),_,I2,rfl,⟨_,_,x,y,I.fresh,hn2,Nat.ne_of_lt (Nat.lt_succ_self _),rfl,rfl,fun zs hz => by rw [I.tuple_inj hz hq1]; exact hx,fun zs hz => by rw [I.list_inj hz hq2]; exact hy⟩,
   ⟨⟨_,by simpa using he''⟩,⟨g0,g1,up _ _ (nq (by omega)) ez,ezf⟩,up _ _ (nq (by omega)) e2,⟨_,_,up _ _ (nq (by omega)) e3⟩,t4.1.at fun o e => up _ o (nq (by omega)) e,t5.1.at fun o e => up _ o (nq (by omega)) e⟩,fr⟩
 done:=by
  intro X hP hw hK hc i pins s σ H E I hf st hg
  subst hP hw hK
  obtain ⟨xs,ys,hq1,hq2,hx⟩:=hg
  obtain ⟨⟨old,h0⟩,⟨f0,f1,h1,hzf⟩,h2,⟨u0,v0,h3⟩,h4,h5⟩:=st
  obtain ⟨its1,rv1,p1,hz1⟩:=I.tuple hq1
  obtain ⟨its2,rv2,p2,hz2⟩:=I.list hq2
  have hh : X.A.in1.in1.handled = none:=by simp [I.ok.hd hc]
  have hl1:=rv1.length
  refine zk4 (Draws.tuple hh n a (nq (by omega)) its1.toArray) (Draws.list hh (n + 1) b (nq (by omega)) its2.toArray) (zde ha hb) h0 h1 hzf h2 h3 ⟨h4,(show s.heap.IsTuple a its1.toArray from p1)⟩ ⟨h5,p2.isList⟩ (.inl (by rw [List.size_toArray]; omega)) fun h' tk kk => ⟨rfl,?_⟩
  have sub : ∀ c ∈ [n + 4,n + 3,n,n + 1],c ∈ zdC n:=fun c hc' => by
   simp only [zdC,List.mem_cons,List.not_mem_nil,or_false] at hc' ⊢
   rcases hc' with z | z | z | z <;> subst z <;> simp
  have k1 : ∀ c o,c ∉ [n + 4,n + 3,n,n + 1] → s.heap.get? c = some o → h'.get? c = some o:=fun c o hc' e => by
   simp only [List.mem_cons,List.not_mem_nil,or_false,not_or] at hc'
   exact kk c o hc'.1 hc'.2.1 hc'.2.2.1 hc'.2.2.2 e
  have nit : ∀ d u',H d = some u' → d ∉ [n + 4,n + 3,n,n + 1]:=fun d u' e' hd => by rw [(hf d (sub d hd)).1] at e'; cases e'
  refine I.step (g':=s.gens) (d':=s.drawn) (t':=tk) (ch:=[n + 4,n + 3,n,n + 1]) (fun c hc' => ?_) (fun c o _ _ hcc e _ => k1 c o hcc e) (fun c o _ _ hcc e _ => ⟨o.slots,k1 c o hcc e⟩) (fun _ _ _ _ n => n)
   (fun c o hcc e => ⟨o,k1 c o hcc e⟩) (fun _ _ e => e) (fun _ _ _ e => e) (fun c ps e => ⟨#[],by rw [e]; simp⟩) (fun m hm => ?_) (fun c u e => ?_) I.bare
  ·obtain ⟨_,a1,_,a3,a4,a5⟩:=hf c (sub c hc')
   exact ⟨a3,a1,a4,a5⟩
  ·obtain ⟨o,es',ep,ho,r⟩:=hm
   exact ⟨o,es',ep,k1 _ o (fun z => (hf _ (sub _ z)).2.1 rfl) ho,r⟩
  ·refine (I.hok c u e).stay (fun d v' hd q => k1 d v' ?_ q) (fun _ q => q) fun _ _ q => q
   rcases hd with z | z
   ·rw [z]; exact nit c u e
   ·exact nit d _ z
 self:=fun _ _ _ _ _ st h => by
  obtain ⟨⟨old,he⟩,_⟩:=st
  exact wpAny_pyIter_enum he h
def iEZ (Sq1 Sq2 : Hp → Addr → List V → Prop) (ta : TA) : TI:=fun σ H R => ta σ H fun vs H1 => ∃ a b xs ys,vs = [.ref a,.ref b] ∧ Sq1 H1 a xs ∧ Sq2 H1 b ys ∧ R (zjT Sq1 Sq2 a b) H1
theorem zgn {X : Cx} {es : List Expr} {k : Nat} {tpos p p2 pos pos2 : Pos} {a b : Expr} {ta : TA} (hg : Gl X "enumerate") (hm : X.mg "enumerate" = none) (hg2 : Gl X "zip") (hm2 : X.mg "zip" = none) (ha : PA X [a,b] ta) (hs : starEach [a,b] X.env = [(false,eval a X.env),(false,eval b X.env)]:=by rfl) (hs2 : starEach [b] X.env = [(false,eval b X.env)]:=by rfl)
  (hs3 : starEach [.Call (.Name "zip" p2) [a,b] [] pos2] X.env = [(false,eval (.Call (.Name "zip" p2) [a,b] [] pos2) X.env)]:=by rfl) :
  PI X (.Tuple es k tpos) (.Call (.Name "enumerate" p) [.Call (.Name "zip" p2) [a,b] [] pos2] [] pos) (iEZ (SqT X.K) (SqL X.K) ta):=by
 intro pins s σ H R I h
 refine Call_ (zbm I hg hm boot_enumerate (PyProof.Rows.callWith_type1 ?_ hs3 rfl))
 rw [hs3]
 show wpAny _ _ (spliced ((false,eval (.Call (.Name "zip" p2) [a,b] [] pos2) X.env) :: [])) _ _ s
 refine Calls.spliced_cons ?_
 refine Call_ (zbm I hg2 hm2 boot_zip (PyProof.Rows.callWith_type1 (thn (ha pos2 pins s σ H _ I h) fun us s1 ⟨vs,H1,I1,r1,q1⟩ => ?_) (by rw [hs,hs2]) (by rw [hs2]; rfl)))
 obtain ⟨l1,l2,xs,ys,e,hq1,hq2,q⟩:=q1
 subst e
 cases r1 with
 | cons r rr =>
  cases rr with
  | cons r' rr =>
   cases rr
   cases r
   cases r'
   obtain ⟨its1,rv1,pl1,hz1⟩:=I1.tuple hq1
   obtain ⟨its2,rv2,pl2,hz2⟩:=I1.list hq2
   have hlt1 : l1 < s1.heap.objs.size:=by obtain ⟨_,e,_⟩:=pl1; exact Heap.lt_size e
   have hlt2 : l2 < s1.heap.objs.size:=by obtain ⟨_,_,e,_⟩:=pl2; exact Heap.lt_size e
   refine zdB (show s1.heap.IsTuple l1 its1.toArray from pl1) pl2.isList fun h' n hn b1 b2 b3 b4 b5 b6 kk => ?_
   refine Calls.spliced_nil ?_
   refine zgm b1 fun h2 he hsz kk2 => ?_
   have I2 : Inv X pins σ H1 { s1 with heap:=h2 }:=I1.kept (t':=s1.toks) fun c o e => kk2 c o (kk c o e)
   refine wpAny_pyIter_enum he ?_; have e5 : h'.objs.size = n + 5:=b6
   have he' : IsEnum h2 (n + 5) (n + 4) 0 .none:=by rw [← e5]; exact he
   refine ⟨_,zdC n,zk5 n l1 l2,zjT (SqT X.K) (SqL X.K) l1 l2,H1,rfl,I2,?_,⟨⟨_,he'⟩,⟨_,_,kk2 _ _ b1,.inl rfl,_,rfl⟩,kk2 _ _ b2,⟨_,_,kk2 _ _ b3⟩,b4.at fun o e => kk2 _ o e,b5.at fun o e => kk2 _ o e⟩,fun c hc => ?_,q⟩
   ·show Turn X.prog X.w X.K (.Tuple es k tpos) (zjT (SqT X.K) (SqL X.K) l1 l2) (zdC n) h'.objs.size (zk5 n l1 l2)
    rw [e5]
    exact zjU l1 l2 n (by rw [hn]; exact hlt1) (by rw [hn]; exact hlt2)
   ·have hle : s1.heap.objs.size ≤ c:=by
     simp only [zdC,List.mem_cons,List.not_mem_nil,or_false] at hc
     rw [← hn]
     rcases hc with z | z | z | z | z | z <;> subst z
     all_goals first | exact Nat.le_add_right _ _ | exact Nat.le_refl _
    exact I1.fpOk hle (I1.hok.fresh hle)
end L2
end
section
set_option maxHeartbeats 3999000
namespace L2
open PySem PySem.Spec PyProof.Rows
theorem zgo {K : PySem.W.Frag} {i j : Nat} : ∀ (x : V) (σ : St) (H : Hp) (Q Q' : St → Hp → Prop),(∀ σ' H',Q σ' H' → Q' σ' H') → zgb K 2 (zcc (zaz i) (zcc (zaz j) zho)) x σ H Q → zgb K 2 (zcc (zaz i) (zcc (zaz j) zho)) x σ H Q':=fun x σ H Q Q' hq ⟨a,xs,e1,h1,h2,v,r,e3,v2,r2,e4,e5,h⟩ => ⟨a,xs,e1,h1,h2,v,r,e3,v2,r2,e4,e5,hq _ _ h⟩
end L2
end
section
set_option maxHeartbeats 3999000
namespace My
open PySem L2 PyProof.Rows
section
variable {K : PySem.W.Frag}
inductive Any1 (H : Hp) : V → Prop where
 | non : Any1 H .non
 | bl (b : Bool) : Any1 H (.bl b)
 | int (i : Int) : Any1 H (.int i)
 | str (x : Str) : Any1 H (.str x)
 | lst {a : Addr} {xs : List V} (e : H a = some (.lst xs)) : Any1 H (.ref a)
 | tup {a : Addr} {xs : List V} (e : H a = some (.tup xs)) : Any1 H (.ref a)
def zmn (H : Hp) : V → Option (List V)
 | .ref a => match H a with
  | some (.lst xs) => some xs
  | _ => none
 | _ => none
def zbd (H : Hp) (c tt : Addr) (p k : Int) (pl : List Int) : Prop:=H c = some (.tup [.int p,.int k,.ref tt]) ∧ H tt = some (.tup (pl.map V.int))
theorem zbd.same {H H' : Hp} {c tt : Addr} {p k : Int} {pl : List Int} (s : zy H H') (h : zbd H c tt p k pl) : zbd H' c tt p k pl:=⟨s _ _ h.1,s _ _ h.2⟩
theorem zeq {a : Addr} {xs : List V} {kp : V → Bool} {f : V → V} {g : TG} {ts : TT} {te : TE} {σ0 : L2.St} {Q : VK} {H : Hp} (ha : SqL K H a xs) (hn : xs.length ≤ 10000)
  (hs : ∀ (i : Nat) (x : V) (R : VK) (B : Hp → Prop),xs[i]? = some x → (if kp x = true then R (f x) H else B H) → g x σ0 H fun σ2 H2 => ts σ2 H2 fun b H3 => if b = true then te σ2 H3 R else B H3)
  (hd : ∀ D,H D = none → Q (.ref D) (upd H D (.lst ((xs.filter kp).map f)))) : cGo g ts te σ0 (Itl K a) Q H:=by
 refine zU (n:=xs.length) (fun i ys H' => ys = ((xs.take i).filter kp).map f ∧ H' = H) ⟨by simp,rfl⟩ ?_ ?_ ?_ ?_
 ·rintro i ys H3 hi ⟨_,rfl⟩
  exact ⟨_,xs[i],ha,by simp⟩
 ·rintro ys H3 ⟨_,rfl⟩
  exact ⟨_,ha,Nat.le_refl _⟩
 ·rintro i x ys H3 H4 hi ⟨rfl,rfl⟩ ⟨rfl,hx⟩
  refine hs i x _ _ (hx _ ha) ?_
  rw [take_snoc (hx _ ha),List.filter_append,List.map_append]
  by_cases h : kp x = true
  ·rw [if_pos h]
   refine ⟨zP ?_,?_,rfl⟩
   ·rw [List.length_map]
    exact Nat.le_trans (List.length_filter_le _ _) (Nat.le_trans (List.length_take_le _ _) (by omega))
   ·congr 1
    simp [h]
  ·rw [if_neg h]
   refine ⟨?_,rfl⟩
   simp [h]
 ·rintro ys H3 D ⟨rfl,rfl⟩ hD
  rw [List.take_length]
  exact hd D hD
def enc : Option Int → V
 | none => .non
 | some i => .int i
def zbM (p : Int) (pl : List Int) (rw : List (Option Int)) (poly : List Int) (j : Nat) : Bool:=match pl[j]?,rw[j]? with
 | some x,some (some i) => decide (i = zt p x poly)
 | _,_ => false
def zck (p : Int) (pl : List Int) (rw : List (Option Int)) (poly : List Int) (n : Nat) : List Int:=((List.range n).filter (zbM p pl rw poly)).map fun (j : Nat) => (j : Int)
theorem zer {p : Int} {pl : List Int} {rw : List (Option Int)} {poly : List Int} {n : Nat} : zck p pl rw poly (n + 1) = zck p pl rw poly n ++ if zbM p pl rw poly n then [(n : Int)] else []:=by
 unfold zck
 rw [List.range_succ,List.filter_append,List.map_append]
 congr 1
 by_cases h : zbM p pl rw poly n = true
 ·rw [if_pos h]; simp [h]
 ·rw [if_neg h]; simp [h]
theorem zfy (p : Int) (pl : List Int) (rw : List (Option Int)) (poly : List Int) (n : Nat) : (zck p pl rw poly n).length ≤ n:=by
 unfold zck
 rw [List.length_map]
 exact Nat.le_trans (List.length_filter_le _ _) (by rw [List.length_range]; exact Nat.le_refl _)
theorem zeV {rw : List (Option Int)} {j : Nat} {x : V} (h : (rw.map enc)[j]? = some x) : ∃ o,x = enc o ∧ rw[j]? = some o:=by
 rw [List.getElem?_map] at h
 cases e : rw[j]? with
 | none => rw [e] at h; cases h
 | some c => rw [e] at h; exact ⟨c,(Option.some.inj h).symm,rfl⟩
def hide (H : Hp) (a : Addr) : Hp:=fun b => if b = a then none else H b
theorem zbV (H : Hp) (a : Addr) : zy (hide H a) H:=fun b o e => by
 unfold hide at e
 split at e
 ·cases e
 ·exact e
theorem zdD {H : Hp} {a : Addr} {o : HO} : hide (upd H a o) a = hide H a:=by
 funext b
 unfold hide
 by_cases h : b = a
 ·rw [if_pos h,if_pos h]
 ·rw [if_neg h,if_neg h,zp h]
theorem zaK {H H' : Hp} {a : Addr} (s : zy H H') : zy (hide H a) (hide H' a):=fun b o e => by
 unfold hide at e ⊢
 by_cases h : b = a
 ·rw [if_pos h] at e; cases e
 ·rw [if_neg h] at e ⊢; exact s _ _ e
theorem zaE {H : Hp} {a b : Addr} {o : HO} (h : H b = some o) (hne : b ≠ a) : hide H a b = some o:=by unfold hide; rw [if_neg hne]; exact h
end
end My
end
section
set_option maxHeartbeats 3999000
namespace My
open PySem L2 PyProof.Rows
section
variable {K : PySem.W.Frag}
def zgU (K : PySem.W.Frag) : Sp:=fun vs H Q _ => ∃ (c tt ra po : Addr) (p k : Int) (pl poly : List Int) (rw : List (Option Int)),vs = [.ref c,.ref ra,.ref po] ∧ zbd H c tt p k pl ∧ H ra = some (.lst (rw.map enc)) ∧ rw.length = pl.length ∧ H po = some (.tup (poly.map V.int)) ∧ 0 < p ∧ p ≤ 97 ∧ (∀ x ∈ pl,0 ≤ x ∧ x < p) ∧ pl.length ≤ 100 ∧
 ∀ (l : Addr) (H' : Hp),H l = none → zy H H' → H' l = some (.lst ((zck p pl rw poly pl.length).map V.int)) → Q (.ref l) H'
def zhG (K : PySem.W.Frag) : Sp:=zgU K
theorem ziO (o : Option Int) (z : Int) : zjE (enc o) (.int z) = true:=by cases o <;> rfl
theorem zhH (o : Option Int) (z : Int) : zjE (.int z) (enc o) = true:=by cases o <;> rfl
theorem zfz {p : Int} {pl : List Int} {rw : List (Option Int)} {poly : List Int} {j : Nat} {x : Int} {o : Option Int} (hx : pl[j]? = some x) (ho : rw[j]? = some o) : zbM p pl rw poly j = decide (enc o = .int (zt p x poly)):=by
 unfold zbM
 rw [hx,ho]
 cases o with
 | none => rfl
 | some i => simp [enc]
def zad (rw : List (Option Int)) (n : Nat) : List Int:=((List.range n).filter fun j => (rw[j]?.getD none).isSome).map fun (j : Nat) => (j : Int)
theorem zcl {rw : List (Option Int)} {n : Nat} : zad rw (n + 1) = zad rw n ++ if (rw[n]?.getD none).isSome = true then [(n : Int)] else []:=by
 unfold zad
 rw [List.range_succ,List.filter_append,List.map_append]
 congr 1
 by_cases h : (rw[n]?.getD none).isSome = true
 ·rw [if_pos h]; simp [h]
 ·rw [if_neg h]; simp [h]
theorem za8 (rw : List (Option Int)) (n : Nat) : (zad rw n).length ≤ n:=by
 unfold zad
 rw [List.length_map]
 exact Nat.le_trans (List.length_filter_le _ _) (by rw [List.length_range]; exact Nat.le_refl _)
def zk6 (p : Int) (pl : List Int) (rw : List (Option Int)) (poly : List Int) : V → Bool
 | .int z => zbM p pl rw poly z.toNat
 | _ => false
theorem zhI {p : Int} {pl : List Int} {rw : List (Option Int)} {poly : List Int} (n : Nat) : (((zad rw n).map V.int).filter (zk6 p pl rw poly)).map id = (zck p pl rw poly n).map V.int:=by
 rw [List.map_id]
 unfold zad zck
 rw [List.filter_map,List.filter_map,List.filter_filter]
 congr 2
 refine List.filter_congr fun j _ => ?_
 show (zbM p pl rw poly ((j : Int)).toNat && (rw[j]?.getD none).isSome) = zbM p pl rw poly j
 rw [Int.toNat_natCast]
 by_cases h : zbM p pl rw poly j = true
 ·rw [h,Bool.true_and]
  unfold zbM at h
  split at h
  ·rename_i _ _ e; rw [e]; rfl
  ·cases h
 ·rw [Bool.eq_false_iff.mpr h,Bool.false_and]
theorem zhJ {rw : List (Option Int)} {n : Nat} {z : Int} (h : z ∈ zad rw n) : ∃ j : Nat,z = j ∧ j < n:=by
 unfold zad at h
 obtain ⟨j,hj,e⟩:=List.mem_map.mp h
 exact ⟨j,e.symm,List.mem_range.mp (List.mem_filter.mp hj).1⟩
end
end My
end
section
set_option maxHeartbeats 3998000
namespace PySem
section
variable {prog : Program} {w : World} {A : Around} {E : Value → Shared → Prop} {s : Shared}
theorem zjV {z TI TO i1 i2 : Addr} {fp1 fp2 : List Addr} {n1 n2 k1 k2 : Nat} {P1 P2 : Nat → Value → Prop} {S1 S2 : Nat → Heap → Prop} {f0 f1 a b : Value} {Q : Option Value → Shared → Prop} (D1 : Draws prog w A.in1 i1 fp1 n1 P1 S1) (D2 : Draws prog w A.in1 i2 fp2 n2 P2 S2) (Z : Zap z TI TO i1 i2 fp1 fp2)
  (hz : IsZ s.heap z TI TO f0 f1) (hf : ZF f0 f1) (hTI : IsPair s.heap TI (.ref i1) (.ref i2)) (hTO : IsPair s.heap TO a b) (st1 : S1 k1 s.heap) (st2 : S2 k2 s.heap) (l1 : k1 < n1) (l2 : k2 < n2)
  (hQ : ∀ x y h' tk g0 g1 a' b',P1 k1 x → P2 k2 y → IsZ h' z TI TO g0 g1 → ZF g0 g1 → IsPair h' TI (.ref i1) (.ref i2) → IsPair h' TO a' b' → S1 (k1 + 1) h' → S2 (k2 + 1) h' → IsPair h' s.heap.objs.size x y → h'.objs.size = s.heap.objs.size + 1 →
   (∀ c o,c ≠ z → c ≠ TO → c ≠ i1 → c ≠ i2 → s.heap.get? c = some o → h'.get? c = some o) → Q (some (.ref s.heap.objs.size)) { s with heap:=h',toks:=tk }) : wpAny (model prog w) A (pyNext (.ref z)) Q E s:=by
 have hTz : s.TypeIs (.ref z) "zip":=⟨_,hz,rfl⟩
 unfold pyNext
 refine wpAny_bind (wpAny_attempt (wpAny_callSpecial?_slot (name:=Str.ofString "__next__") hTz F.slot_zip_next (wpAny_call_entry F.slot_zip_next hTz F.entry_zip_next ?_ (F.args_zip_next_1 _))))
 exact zgT D1 D2 Z hz hf hTI hTO st1 st2 l1 l2 fun x y h1 tk g0 g1 a' b' px py hz1 hf1 hTI1 hTO1 st1' st2' hp1 hsz1 kk => wpAny_pure (hQ x y h1 tk g0 g1 a' b' px py hz1 hf1 hTI1 hTO1 st1' st2' hp1 hsz1 kk)
theorem zk7 {z TI TO i1 i2 : Addr} {fp1 fp2 : List Addr} {n1 n2 k1 k2 : Nat} {P1 P2 : Nat → Value → Prop} {S1 S2 : Nat → Heap → Prop} {f0 f1 a b : Value} {Q : Option Value → Shared → Prop} (D1 : Draws prog w A.in1 i1 fp1 n1 P1 S1) (D2 : Draws prog w A.in1 i2 fp2 n2 P2 S2) (Z : Zap z TI TO i1 i2 fp1 fp2)
  (hz : IsZ s.heap z TI TO f0 f1) (hf : ZF f0 f1) (hTI : IsPair s.heap TI (.ref i1) (.ref i2)) (hTO : IsPair s.heap TO a b) (st1 : S1 k1 s.heap) (st2 : S2 k2 s.heap) (l1 : k1 = n1 ∨ (k1 < n1 ∧ k2 = n2))
  (hQ : ∀ h' tk,(∀ c o,c ≠ z → c ≠ TO → c ≠ i1 → c ≠ i2 → s.heap.get? c = some o → h'.get? c = some o) → Q none { s with heap:=h',toks:=tk }) : wpAny (model prog w) A (pyNext (.ref z)) Q E s:=by
 have hTz : s.TypeIs (.ref z) "zip":=⟨_,hz,rfl⟩
 unfold pyNext
 refine wpAny_bind (wpAny_attempt (wpAny_callSpecial?_slot (name:=Str.ofString "__next__") hTz F.slot_zip_next (wpAny_call_entry F.slot_zip_next hTz F.entry_zip_next ?_ (F.args_zip_next_1 _))))
 refine ziN D1 D2 Z hz hf hTI hTO st1 st2 l1 fun h' tk x kk ⟨o,ho,hc⟩ => ?_
 exact wpAny_bind (wpAny_isInstance (T:="StopIteration") (b:=true) ⟨o,ho,hc⟩ isSubtype_stop (wpAny_pure (hQ h' tk kk)))
theorem zgV {z TI TO : Addr} {f0 f1 : Value} {Q : Value → Shared → Prop} (hz : IsZ s.heap z TI TO f0 f1) (h : Q (.ref z) s) : wpAny (model prog w) A (pyIter (.ref z)) Q E s:=by
 have hT : s.TypeIs (.ref z) "zip":=⟨_,hz,rfl⟩; refine wpAny_pyIter_slot hT F.slot_zip_iter (wpAny_call_entry F.slot_zip_iter hT F.entry_zip_iter ?_ (F.args_zip_iter_1 _))
 show wpAny _ _ (ret (.ref z)) _ _ s; exact wpAny_pure ⟨_,rfl,"zip",_,hT,F.slot_zip_next.lookup,h⟩
theorem zlU {elts : List Expr} {x1} {pos : Pos} {z TI TO T : Addr} {f0 f1 : Value} {Q : Unit → Shared → Prop} (hz : IsZ s.heap z TI TO f0 f1) (hf : ZF f0 f1)
  (hQ : ∀ h' g0,IsZ h' z TI TO g0 f1 → ZF g0 f1 → Heap.SameBut z s.heap h' → Q () { s with heap:=h' }) : wpAny (model prog w) A (letOwnedTupleGo (.Tuple elts x1 pos) (.ref z) (.ref T)) Q E s:=by
 unfold letOwnedTupleGo; refine wpAny_bind (wpAny_load hz ?_)
 show wpAny _ _ (if _ then _ else _) Q E s
 split
 ·refine wpAny_bind (wpAny_rule ?_); show wpAny _ _ (setField (.ref z) 0 .none) Q E s
  exact wpAny_setField_rec hz (by simp) fun h' hz' hs' => hQ h' .none hz' ⟨.inl rfl,hf.2⟩ hs'
 ·exact wpAny_pure (hQ s.heap f0 hz hf ⟨rfl,fun _ _ => rfl⟩)
end
end PySem
namespace L2
open PySem PySem.Spec PyProof.Rows
def zk8 (Sq1 Sq2 : Hp → Addr → List V → Prop) (a b : Addr) : It :=
 ⟨(zhv Sq1 Sq2 a b).go,(zhv Sq1 Sq2 a b).yld,fun i H => ∃ xs ys,Sq1 H a xs ∧ Sq2 H b ys ∧ (xs.length = i ∨ (i < xs.length ∧ ys.length = i))⟩
abbrev zd1 (n : Nat) : List Addr:=[n + 4,n + 2,n + 3,n,n + 1]
abbrev zlV (n a b : Nat) (i : Nat) (h : Heap) : Prop:=(∃ f0 f1,IsZ h (n + 4) (n + 2) (n + 3) f0 f1 ∧ ZF f0 f1) ∧ IsPair h (n + 2) (.ref n) (.ref (n + 1)) ∧ (∃ u v,IsPair h (n + 3) u v) ∧ h.IsTupleIter n a i ∧ h.IsListIter (n + 1) b i
theorem ziP {P : Program} {w : World} {K : PySem.W.Frag} {es : List Expr} {k : Nat} {pos : Pos} (a b n : Nat) (ha : a < n) (hb : b < n) : Turn P w K (.Tuple es k pos) (zk8 (SqT K) (SqL K) a b) (zd1 n) (n + 4) (zlV n a b) where
 mem:=by simp
 obj:=fun i h st c hc => by
  obtain ⟨⟨f0,f1,h1,_⟩,h2,⟨u,v,h3⟩,⟨o4,e4,_,d4⟩,⟨o5,e5,_,d5⟩⟩:=st
  simp only [zd1,List.mem_cons,List.not_mem_nil,or_false] at hc
  rcases hc with z | z | z | z | z <;> subst z
  ·exact ⟨_,h1,fun v z => by cases z⟩
  ·exact ⟨_,h2,fun v z => by cases z⟩
  ·exact ⟨_,h3,fun v z => by cases z⟩
  ·exact ⟨_,e4,fun v z => by rw [d4] at z; cases z⟩
  ·exact ⟨_,e5,fun v z => by rw [d5] at z; cases z⟩
 keep:=fun i h h' st kk => by
  obtain ⟨⟨f0,f1,h1,hf⟩,h2,⟨u,v,h3⟩,h4,h5⟩:=st
  exact ⟨⟨f0,f1,kk _ (by simp) _ h1,hf⟩,kk _ (by simp) _ h2,⟨u,v,kk _ (by simp) _ h3⟩,h4.at fun o eo => kk _ (by simp) o eo,h5.at fun o eo => kk _ (by simp) o eo⟩
 item:=by
  intro X hP hw hK hc i pins s σ H E I hf st hg
  subst hP hw hK
  obtain ⟨xs,ys,x,y,hq1,hq2,hx,hy⟩:=hg
  obtain ⟨⟨f0,f1,h1,hzf⟩,h2,⟨u0,v0,h3⟩,h4,h5⟩:=st
  obtain ⟨its1,rv1,p1,hz1⟩:=I.tuple hq1
  obtain ⟨its2,rv2,p2,hz2⟩:=I.list hq2
  obtain ⟨u,hu,ru⟩:=rv1.get hx
  obtain ⟨v,hv,rv⟩:=rv2.get hy
  have hes : n + 4 < s.heap.objs.size:=Heap.lt_size h1
  have hh : X.A.in1.handled = none:=by simp [I.ok.hd hc]
  have hlt1 : i < its1.toArray.size:=by have:=(List.getElem?_eq_some_iff.mp hu).1; simpa using this
  have hlt2 : i < its2.toArray.size:=by have:=(List.getElem?_eq_some_iff.mp hv).1; simpa using this
  refine zjV (Draws.tuple hh n a (nq (by omega)) its1.toArray) (Draws.list hh (n + 1) b (nq (by omega)) its2.toArray) (zde ha hb) h1 hzf h2 h3 ⟨h4,(show s.heap.IsTuple a its1.toArray from p1)⟩ ⟨h5,p2.isList⟩ hlt1 hlt2
   fun x' y' h' tk g0 g1 a' b' px py ez ezf e2 e3 t4 t5 pp hsz kk => ?_
  have eu : x' = u:=by
   have e1 : its1[i]? = some x':=by simpa using px
   rw [hu] at e1; exact (Option.some.inj e1).symm
  have ev : y' = v:=by
   have e1 : its2[i]? = some y':=by simpa using py
   rw [hv] at e1; exact (Option.some.inj e1).symm
  subst eu ev
  have ch : ∀ c ∈ [n + 4,n + 3,n,n + 1],c ∈ zd1 n:=fun c hc' => by
   simp only [zd1,List.mem_cons,List.not_mem_nil,or_false] at hc' ⊢
   rcases hc' with z | z | z | z <;> subst z <;> simp
  have k1 : ∀ c o,c ∉ [n + 4,n + 3,n,n + 1] → s.heap.get? c = some o → h'.get? c = some o:=fun c o hc' eo => by
   simp only [List.mem_cons,List.not_mem_nil,or_false,not_or] at hc'
   exact kk c o hc'.1 hc'.2.1 hc'.2.2.1 hc'.2.2.2 eo
  have th1 : ∀ c ∈ [n + 4,n + 3,n,n + 1],∃ o,h'.get? c = some o:=fun c hc' => by
   simp only [List.mem_cons,List.not_mem_nil,or_false] at hc'
   rcases hc' with z | z | z | z <;> subst z
   ·exact ⟨_,ez⟩
   ·exact ⟨_,e3⟩
   ·obtain ⟨o,e,_⟩:=t4.1; exact ⟨o,e⟩
   ·obtain ⟨o,e,_⟩:=t5.1; exact ⟨o,e⟩
  have I1 : Inv X pins σ (upd H s.heap.objs.size (.tup [x,y])) { s with heap:=h',toks:=tk } :=
   I.turnedNew k1 (fun c hc' => hf c (ch c hc')) th1 (Nat.le_refl _) ⟨zaJ,_,.cons ru (.cons rv .nil),zbE pp⟩
  refine ⟨_,rfl,zlU (s:={ s with heap:=h',toks:=tk }) ez ezf fun h'' g2 hz'' hzf'' hs'' => ?_⟩
  have fr : ∀ c ∈ zd1 n,upd H s.heap.objs.size (.tup [x,y]) c = none:=fun c hc' => by
   have hlt : c < s.heap.objs.size:=by
    simp only [zd1,List.mem_cons,List.not_mem_nil,or_false] at hc'
    rcases hc' with z | z | z | z | z <;> subst z <;> exact nl (by omega)
   rw [zp (Nat.ne_of_lt hlt)]
   exact (hf c hc').1
  have I2 : Inv X pins σ (upd H s.heap.objs.size (.tup [x,y])) { s with heap:=h'',toks:=tk } :=
   Inv.turnedL (s:={ s with heap:=h',toks:=tk }) (ch:=[n + 4]) (t':=tk) I1 (fun c o hc' eo => hs''.extBut c o (by simpa using hc') eo) (fun c hc' => by
    have z : c = n + 4:=by simpa using hc'
    subst z
    exact ⟨fr _ (by simp),(hf _ (by simp)).2⟩) (fun c hc' => by
    have z : c = n + 4:=by simpa using hc'
    subst z
    exact ⟨_,hz''⟩)
  have up : ∀ c o,c ≠ n + 4 → h'.get? c = some o → h''.get? c = some o:=fun c o hc' e => hs''.extBut c o hc' e
  exact ⟨.ref s.heap.objs.size,_,I2,rfl,⟨_,x,y,I.fresh,rfl,rfl,fun zs hz => by rw [I.tuple_inj hz hq1]; exact hx,fun zs hz => by rw [I.list_inj hz hq2]; exact hy⟩,
   ⟨⟨g2,g1,hz'',hzf''⟩,up _ _ (nq (by omega)) e2,⟨_,_,up _ _ (nq (by omega)) e3⟩,t4.1.at fun o e => up _ o (nq (by omega)) e,t5.1.at fun o e => up _ o (nq (by omega)) e⟩,fr⟩
 done:=by
  intro X hP hw hK hc i pins s σ H E I hf st hg
  subst hP hw hK
  obtain ⟨xs,ys,hq1,hq2,hx⟩:=hg
  obtain ⟨⟨f0,f1,h1,hzf⟩,h2,⟨u0,v0,h3⟩,h4,h5⟩:=st
  obtain ⟨its1,rv1,p1,hz1⟩:=I.tuple hq1
  obtain ⟨its2,rv2,p2,hz2⟩:=I.list hq2
  have hh : X.A.in1.handled = none:=by simp [I.ok.hd hc]
  have hl1:=rv1.length
  have hl2:=rv2.length
  refine zk7 (Draws.tuple hh n a (nq (by omega)) its1.toArray) (Draws.list hh (n + 1) b (nq (by omega)) its2.toArray) (zde ha hb) h1 hzf h2 h3 ⟨h4,(show s.heap.IsTuple a its1.toArray from p1)⟩ ⟨h5,p2.isList⟩ (by rw [List.size_toArray,List.size_toArray]; omega) fun h' tk kk => ⟨rfl,?_⟩
  have sub : ∀ c ∈ [n + 4,n + 3,n,n + 1],c ∈ zd1 n:=fun c hc' => by
   simp only [zd1,List.mem_cons,List.not_mem_nil,or_false] at hc' ⊢
   rcases hc' with z | z | z | z <;> subst z <;> simp
  have k1 : ∀ c o,c ∉ [n + 4,n + 3,n,n + 1] → s.heap.get? c = some o → h'.get? c = some o:=fun c o hc' e => by
   simp only [List.mem_cons,List.not_mem_nil,or_false,not_or] at hc'
   exact kk c o hc'.1 hc'.2.1 hc'.2.2.1 hc'.2.2.2 e
  have nit : ∀ d u',H d = some u' → d ∉ [n + 4,n + 3,n,n + 1]:=fun d u' e' hd => by rw [(hf d (sub d hd)).1] at e'; cases e'
  refine I.step (g':=s.gens) (d':=s.drawn) (t':=tk) (ch:=[n + 4,n + 3,n,n + 1]) (fun c hc' => ?_) (fun c o _ _ hcc e _ => k1 c o hcc e) (fun c o _ _ hcc e _ => ⟨o.slots,k1 c o hcc e⟩) (fun _ _ _ _ n => n)
   (fun c o hcc e => ⟨o,k1 c o hcc e⟩) (fun _ _ e => e) (fun _ _ _ e => e) (fun c ps e => ⟨#[],by rw [e]; simp⟩) (fun m hm => ?_) (fun c u e => ?_) I.bare
  ·obtain ⟨_,a1,_,a3,a4,a5⟩:=hf c (sub c hc')
   exact ⟨a3,a1,a4,a5⟩
  ·obtain ⟨o,es',ep,ho,r⟩:=hm
   exact ⟨o,es',ep,k1 _ o (fun z => (hf _ (sub _ z)).2.1 rfl) ho,r⟩
  ·refine (I.hok c u e).stay (fun d v' hd q => k1 d v' ?_ q) (fun _ q => q) fun _ _ q => q
   rcases hd with z | z
   ·rw [z]; exact nit c u e
   ·exact nit d _ z
 self:=fun _ _ _ _ _ st h => by
  obtain ⟨⟨f0,f1,hz,_⟩,_⟩:=st
  exact zgV hz h
def iZq (Sq1 Sq2 : Hp → Addr → List V → Prop) (ta : TA) : TI:=fun σ H R => ta σ H fun vs H1 => ∃ a b xs ys,vs = [.ref a,.ref b] ∧ Sq1 H1 a xs ∧ Sq2 H1 b ys ∧ R (zk8 Sq1 Sq2 a b) H1
theorem ziQ {X : Cx} {es : List Expr} {k : Nat} {tpos p pos : Pos} {a b : Expr} {ta : TA} (hg : Gl X "zip") (hm : X.mg "zip" = none) (ha : PA X [a,b] ta) (hs : starEach [a,b] X.env = [(false,eval a X.env),(false,eval b X.env)]:=by rfl) (hs2 : starEach [b] X.env = [(false,eval b X.env)]:=by rfl) :
  PI X (.Tuple es k tpos) (.Call (.Name "zip" p) [a,b] [] pos) (iZq (SqT X.K) (SqL X.K) ta):=by
 intro pins s σ H R I h
 refine Call_ (zbm I hg hm boot_zip (PyProof.Rows.callWith_type1 (thn (ha pos pins s σ H _ I h) fun us s1 ⟨vs,H1,I1,r1,q1⟩ => ?_) (by rw [hs,hs2]) (by rw [hs2]; rfl)))
 obtain ⟨l1,l2,xs,ys,e,hq1,hq2,q⟩:=q1
 subst e
 cases r1 with
 | cons r rr =>
  cases rr with
  | cons r' rr =>
   cases rr
   cases r
   cases r'
   obtain ⟨its1,rv1,pl1,hz1⟩:=I1.tuple hq1
   obtain ⟨its2,rv2,pl2,hz2⟩:=I1.list hq2
   have hlt1 : l1 < s1.heap.objs.size:=by obtain ⟨_,e,_⟩:=pl1; exact Heap.lt_size e
   have hlt2 : l2 < s1.heap.objs.size:=by obtain ⟨_,_,e,_⟩:=pl2; exact Heap.lt_size e
   refine zdB (show s1.heap.IsTuple l1 its1.toArray from pl1) pl2.isList fun h' n hn b1 b2 b3 b4 b5 b6 kk => ?_
   have I2 : Inv X pins σ H1 { s1 with heap:=h' }:=I1.kept (t':=s1.toks) kk
   refine zgV b1 ?_
   refine ⟨_,zd1 n,zlV n l1 l2,zk8 (SqT X.K) (SqL X.K) l1 l2,H1,rfl,I2,ziP l1 l2 n (by rw [hn]; exact hlt1) (by rw [hn]; exact hlt2),⟨⟨_,_,b1,.inl rfl,_,rfl⟩,b2,⟨_,_,b3⟩,b4,b5⟩,fun c hc => ?_,q⟩
   have hle : s1.heap.objs.size ≤ c:=by
    simp only [zd1,List.mem_cons,List.not_mem_nil,or_false] at hc
    rw [← hn]
    rcases hc with z | z | z | z | z <;> subst z
    all_goals first | exact Nat.le_add_right _ _ | exact Nat.le_refl _
   exact I1.fpOk hle (I1.hok.fresh hle)
end L2
end
section
set_option maxHeartbeats 3999000
namespace L2
open PySem PySem.Spec PyProof.Rows
end L2
end
section
set_option maxHeartbeats 3999000
namespace L2
open PySem PySem.Spec PyProof.Rows
section
variable {prog : Program} {w : World} {A : Around} {h : Heap} {g : Array GenState} {d : Drawn} {tk : Nat} {os : OsState} {K : PySem.W.Frag} {x C : Addr} {E : Value → Shared → Prop}
theorem zgp {R : Result → Shared → Prop} {tp : Value} (J : ∀ M,PySem.W.Looks M h (typeOf (.ref x)) (.ref C)) (X : K.In h)
  (hm : PySem.W.mroIn K C (.type "object") = some true) (q : R (.ok (.ret (.ref C))) ⟨h,g,d,tk,os⟩) :
  codeAny (model prog w) A (Code.call (.builtin "getset_descriptor.__get__") { pos:=[.builtin "object.__class__",.ref x,tp] }) R ⟨h,g,d,tk,os⟩:=by
 refine codeAny_call_builtin PySem.W.KF.slot_gs.plain PySem.W.KF.entry_gs (PySem.W.KF.slot_gs.check _ _ _ _ _ _ _ _ ?_ (PySem.W.KF.args_gs _ _ _) ?_)
 ·exact PySem.W.KF.type_class
 ·unfold Builtin.«getset_descriptor.__get__» Builtin.Getset_descriptor.descrGet
  rw [PySem.W.dga_obj]
  refine wpAny_bind (wpAny_pure ?_)
  try dsimp only
  unfold Builtin.Getset_descriptor.descrGetter
  try dsimp only
  refine wpAny_bind ?_
  unfold Builtin.Getset_descriptor.descrCheckInstance Builtin.Getset_descriptor.descrNameAndClass
  try dsimp only
  rw [PySem.W.KF.owner_class]
  refine wpAny_bind (wpAny_pure ?_)
  try dsimp only
  unfold isInstance
  refine wpAny_bind (wpAny_bind ((J _).at ((PySem.W.looks_mroIn X hm).at ?_)))
  refine wpAny_ite_false rfl (wpAny_pure ?_)
  unfold again
  refine wpAny_pure ⟨Code.quiet_builtin _ (by decide +kernel),?_⟩
  refine codeAny_builtin PySem.W.KF.entry_class ?_
  unfold Builtin.«object.__class__»
  try dsimp only
  unfold shownTypeOf
  refine wpAny_bind (wpAny_bind ((J _).at ?_))
  refine wpAny_ite_false rfl (wpAny_pure ?_)
  unfold ret
  exact wpAny_pure q
theorem zhK {M : Model} {nameV : Value} {Q : Unit → Shared → Prop} (J : ∀ M,PySem.W.Looks M h (typeOf (.ref x)) (.ref C)) (X : K.In h) (hm : PySem.W.mroIn K C (.type "BaseException") = some true) (q : Q () ⟨h,g,d,tk,os⟩) :
  wpAny M A (checkBuiltinCall "BaseException.__getattribute__" { pos:=[.ref x,nameV] }) Q E ⟨h,g,d,tk,os⟩:=by
 have hk : builtinKind "BaseException.__getattribute__" = some Manifest.AttrKind.slot:=(by decide +kernel)
 have hs : splitId "BaseException.__getattribute__" = some ("BaseException","__getattribute__"):=by decide +kernel
 unfold checkBuiltinCall
 rw [hk,hs]
 try dsimp only
 unfold isInstance
 refine wpAny_bind (wpAny_bind ((J _).at ((PySem.W.looks_mroIn X hm).at ?_)))
 refine wpAny_ite_false rfl ?_
 have ok:=F.args_bexc_ga (.ref x) nameV
 unfold argsOk at ok
 generalize Manifest.signature? "BaseException.__getattribute__" = sg at ok ⊢
 cases sg with
 | none => exact wpAny_pure q
 | some sig =>
  dsimp only at ok ⊢
  rw [ok]
  exact wpAny_pure q
theorem zhL {Q : Option Value → Shared → Prop} (J : ∀ M,PySem.W.Looks M h (typeOf (.ref x)) (.ref C)) (X : K.In h)
  (F1 : PySem.W.findIn K (.ref C) "__getattribute__" = some (some (.builtin "BaseException.__getattribute__"))) (F2 : PySem.W.findIn K (.ref C) "__getattr__" = some none)
  (F3 : PySem.W.findIn K (.ref C) "__class__" = some (some (.builtin "object.__class__"))) (hm : PySem.W.mroIn K C (.type "object") = some true) (hb : PySem.W.mroIn K C (.type "BaseException") = some true)
  (q : Q (some (.ref C)) ⟨h,g,d,tk + 1,os⟩) : wpAny (model prog w) A (getAttr? (.ref x) "__class__") Q E ⟨h,g,d,tk,os⟩:=by
 unfold getAttr?
 (refine wpAny_bind (wpAny_mkText ?_))
 unfold getAttrBy?
 (refine wpAny_bind (wpAny_attempt ?_))
 unfold getAttrBy
 refine wpAny_holding (wpAny_bind ((J _).at (wpAny_bind ((PySem.W.looks_findIn X F1).at ?_))))
 try dsimp only
 refine wpAny_ite_false rfl ?_
 unfold getAttrByItsOwn
 refine wpAny_bind ((PySem.W.looks_hook (mc:=.ref C) X (r:=none) (by rw [show onTheHeap (Value.ref C) = true from rfl,if_pos rfl]; exact F2)).at ?_)
 (refine wpAny_bind (wpAny_attempt (wpAny_holding ?_)))
 unfold callGetattribute
 refine wpAny_ite_false rfl ?_
 unfold boundAndCalled
 rw [F.attrBase_ValueError.ga.bind]
 refine wpAny_bind (wpAny_pure ?_)
 try dsimp only
 refine wpAny_call ?_
 refine codeAny_call_builtin F.attrBase_ValueError.ga.plain F.entry_bexc_ga (zhK J X hb ?_)
 (unfold Builtin.«object.__getattribute__»)
 refine wpAny_bind ?_
 unfold slotArgs
 try dsimp only
 refine wpAny_ite_false rfl (wpAny_ite_false rfl (wpAny_pure ?_))
 try dsimp only
 unfold Builtin.ObjectAttr.attrName
 try dsimp only
 refine wpAny_bind (wpAny_pure (wpAny_bind ((J _).at (wpAny_bind ?_))))
 unfold Builtin.ObjectAttr.find
 refine wpAny_bind ((PySem.W.looks_findIn X F3).at ?_)
 unfold Builtin.ObjectAttr.getOf
 try dsimp only
 refine wpAny_bind (wpAny_specialOf_val PySem.W.KF.type_class F.slot_gs_get.lookup ?_)
 unfold Builtin.ObjectAttr.dataDescriptor?
 try dsimp only
 refine wpAny_bind ?_
 unfold Builtin.ObjectAttr.takesStores
 refine wpAny_bind (wpAny_bind (wpAny_specialOf_val PySem.W.KF.type_class F.slot_gs_set.lookup ?_))
 refine wpAny_ite_true rfl (wpAny_pure ?_)
 refine wpAny_ite_true rfl (wpAny_pure ?_)
 try dsimp only
 (refine wpAny_bind (wpAny_rule (wpAny_pure ?_)))
 try dsimp only
 unfold Builtin.ObjectAttr.bindTo
 try dsimp only
 refine wpAny_bind (wpAny_holding (wpAny_call (zgp J X hm ?_)))
 try dsimp only
 unfold ret
 refine wpAny_pure ?_
 try dsimp only
 unfold handedOut
 try dsimp only
 refine wpAny_pure ?_
 try dsimp only
 exact wpAny_pure q
end
end L2
end
section
set_option maxHeartbeats 3999000
namespace L2
open PySem PySem.Spec PyProof.Rows
structure Xc (K : PySem.W.Frag) (C : Addr) : Prop where
 f1 : PySem.W.findIn K (.ref C) "__getattribute__" = some (some (.builtin "BaseException.__getattribute__"))
 f2 : PySem.W.findIn K (.ref C) "__getattr__" = some none
 f3 : PySem.W.findIn K (.ref C) "__class__" = some (some (.builtin "object.__class__"))
 ob : PySem.W.mroIn K C (.type "object") = some true
 bb : PySem.W.mroIn K C (.type "BaseException") = some true
 kc : PySem.W.kitCls K (.ref C) (.ref C) = some true
theorem zdE {h : Heap} {x C : Addr} (e : ∃ o,h.get? x = some o ∧ o.cls = .ref C) (M : Model) : PySem.W.Looks M h (typeOf (.ref x)) (.ref C):=by
 obtain ⟨o,e,c⟩:=e
 intro A Q E s k q
 obtain ⟨h',g,d,t,os⟩:=s
 unfold typeOf
 refine wpAny_bind (wpAny_loadPart_at (k _ _ e) (wpAny_pure ?_))
 rw [c]
 exact q
theorem zk9 {K : PySem.W.Frag} {C : Addr} {b : Value} {r : Bool} (m : PySem.W.mroIn K C b = some r) : ∃ oc dd cd sl,K.lookup C = some ⟨oc,dd,.cls cd,sl⟩:=by
 unfold PySem.W.mroIn PySem.W.clsIn at m
 cases e : List.lookup C K with
 | none => rw [e] at m; cases m
 | some o =>
  obtain ⟨oc,dd,da,sl⟩:=o
  cases da with
  | cls cd => exact ⟨oc,dd,cd,sl,rfl⟩
  | _ => rw [e] at m; cases m
theorem zfA {K : PySem.W.Frag} {x C : Addr} (c : Xc K C) : PySem.W.KitX K (.ref x) (.ref C) (fun h => ∃ o,h.get? x = some o ∧ o.cls = .ref C):=by
 refine ⟨fun M h _ e => zdE e M,fun M h X e => (PySem.W.kit_cls X c.kc).2.1,fun h tp dd its n sl X e => ?_,fun {prog w A E Q s} X e q => ?_⟩
 ·obtain ⟨oc,dd',cd,sl',l⟩:=zk9 c.ob
  have e2:=X _ _ l
  have ne : C ≠ tp:=fun z => by
   rw [z,e] at e2
   cases e2
  exact decide_eq_false fun z => ne (by injection z)
 ·obtain ⟨h,g,d,tk,os⟩:=s
  exact zhL (fun M => zdE e M) X c.f1 c.f2 c.f3 c.ob c.bb q
def ziR (a C : Addr) : HO:=.ext fun h => ∃ o,h.get? a = some o ∧ o.cls = .ref C
theorem zQ {X : Cx} : zbh X (.builtin "isinstance") (fun xs H Q => ∃ a C y b,xs = [.ref a,y] ∧ H a = some (ziR a C) ∧ Xc X.K C ∧ ((∃ D,y = .ref D ∧ PySem.W.kitOne X.K (.ref C) (.ref D) = some b) ∨ ∃ n,y = .ty n ∧ PySem.W.kitOne X.K (.ref C) (.type n) = some b) ∧ Q (.bl b) H):=by
 intro pins s σ H xs us Q I r h
 obtain ⟨a,C,y,b,rfl,ha,c,hy,q⟩:=h
 obtain ⟨u,u',rfl,rx,r2⟩:=vals2 r
 cases rx
 obtain ⟨he,_,_⟩:=(show zR X.prog X.w H s.heap a (ziR a C) from I.hok a _ ha)
 rcases hy with ⟨D,rfl,hk⟩ | ⟨n,rfl,hk⟩
 ·cases r2
  exact PySem.W.kia_one (zfA c) I.kIn he hk (fun z => nomatch z) fun tk => ⟨.bl b,H,I.tok tk,rfl,q⟩
 ·cases r2
  exact PySem.W.kia_one (zfA c) I.kIn he hk (fun z => nomatch z) fun tk => ⟨.bl b,H,I.tok tk,rfl,q⟩
end L2
end
section
set_option maxHeartbeats 3999000
namespace L2
open PySem PySem.Spec PyProof.Rows
abbrev ziS : List Value:=[.type "ValueError",.type "Exception",.type "BaseException",.type "object"]
structure XcAt (C : Addr) (h : Heap) (bmB : List Value) (newId : String) : Prop where
 ex : ∃ nm q N bs bm hdct sn sub ab col dd k0 k1 k2 k3 k5,∃ mN : Str → Option Value,h.get? C = some (excClassObj nm q C N bs bm hdct sn sub ab col dd k0 k1 k2 k3 k5 newId) ∧ h.Ns N mN ∧ mN "__init__" = none ∧ OwnTail h bmB bm
theorem zhM {K : PySem.W.Frag} {h : Heap} {C : Addr} {bmB : List Value} {newId : String} (X : K.In h) (e : PySem.W.excIn K C bmB newId = true) : XcAt C h bmB newId:=by
 unfold PySem.W.excIn at e
 split at e
 ·rename_i dict cd sl hl
  split at e
  ·rename_i C' bm a0 a1 a2 a3 n a5 hm hs
   simp only [Bool.and_eq_true,beq_iff_eq] at e
   obtain ⟨⟨⟨⟨⟨rfl,rfl⟩,hdel⟩,ht⟩,hn⟩,hi⟩:=e
   obtain ⟨sll⟩:=sl
   have hs : sll = [a0,a1,a2,a3,some (Value.builtin n),a5]:=hs
   subst hs
   have ho:=X _ _ hl
   cases cd
   dsimp only at hm hn hi hdel
   subst hm
   simp only [Bool.not_eq_true'] at hdel
   subst hdel
   exact ⟨_,_,_,_,_,_,_,_,_,_,_,_,_,_,_,_,_,ho,Heap.Ns.of_isNs (PySem.W.isNs_of_in X hn),PySem.W.nsMap_none_of_in X hn hi,PySem.W.tail_of_in X ht⟩
  ·cases e
 ·cases e
end L2
end
section
set_option maxHeartbeats 3999000
namespace L2
open PySem PySem.Spec PyProof.Rows
theorem zcS {h h' base B : Heap} (k : ∀ b o,h.get? b = some o → h'.get? b = some o) : ∀ {l : List Env},h.FunFrames base l → (∀ b ∈ frs l,B.get? b = none) → h'.FunFrames B l
 | [],_,_ => trivial
 | env :: r,hl,hb => by
  obtain ⟨hk,⟨L,o,hf,hn,ho,hd⟩,hr⟩:=hl
  have e : frs (env :: r) = L :: frs r:=by unfold frs; rw [List.filterMap_cons,hf]
  rw [e] at hb
  exact ⟨hk,⟨L,o,hf,hb L (by simp),k _ _ ho,hd⟩,zcS k hr fun b z => hb b (List.mem_cons_of_mem _ z)⟩
structure Xl (P : Program) (w : World) (outer : List Env) (H : Hp) (h : Heap) (H' : Hp) (h' B : Heap) (e C : Addr) : Prop where
 new : h.get? e = none
 hok : HOk P w H' B
 fly : ∃ t,B.FlyingW outer e (.ref C) t h'
 keep : ∀ b o,h.get? b = some o → H b = none → b ∉ frs outer → B.get? b = some o
 slot : ∀ b o,h.get? b = some o → H b = none → b ∈ frs outer → ∃ sl,h'.get? b = some { o with slots:=sl }
 free : ∀ b o,h.get? b = some o → H b = none → H' b = none
 there : ∀ b o,h.get? b = some o → b ∉ frs outer → ∃ o',B.get? b = some o'
 tups : ∀ b xs,H b = some (.tup xs) → H' b = some (.tup xs)
 frzs : ∀ b o u,H b = some (.frz o u) → H' b = some (.frz o u)
 tbls : ∀ b ps,H b = some (.tbl ps) → ∃ more,H' b = some (.tbl (ps ++ more))
def CX1 (P : Program) (w : World) : CXT:=fun outer H s E ev s' => ∃ (e C : Addr) (H' : Hp) (B : Heap),ev = .ref e ∧ s'.os = s.os ∧ AllBare s'.gens ∧ Xl P w outer H s.heap H' s'.heap B e C ∧ E (.ref C) none H'
section
variable {P : Program} {w : World} {outer : List Env} {H H' : Hp} {h h' B : Heap} {e C : Addr}
theorem ziT {o : HO} {a : Addr} (x : zR P w H h a o) : ∃ ob,h.get? a = some ob:=by
 cases o with
 | lst xs => obtain ⟨_,_,_,_,e⟩:=x; exact ⟨_,e⟩
 | tup xs => obtain ⟨_,_,_,o,e,_⟩:=x; exact ⟨_,e⟩
 | dK kvs => obtain ⟨_,_,_,_,o,_,_,e,_⟩:=x; exact ⟨_,e⟩
 | dT kvs => obtain ⟨_,_,_,_,o,_,_,e,_⟩:=x; exact ⟨_,e⟩
 | set S n => obtain ⟨o,_,_,_,e,_⟩:=x; exact ⟨_,e⟩
 | ins C dx fs => obtain ⟨_,_,_,e,_⟩:=x; exact ⟨_,e⟩
 | own y => obtain ⟨_,e⟩:=x; exact ⟨_,e⟩
 | xd fs => obtain ⟨_,⟨_,_,_,e,_⟩,_⟩:=x; exact ⟨_,e⟩
 | rng lo hi => obtain ⟨_,_,_,e⟩:=x; exact ⟨_,e⟩
 | frz ob u => obtain ⟨e,_⟩:=x; exact ⟨_,e⟩
 | tbl ps => exact ⟨_,(show h.get? a = some _ from x)⟩
 | met f y => exact ⟨_,(show h.get? a = some _ from x)⟩
 | ext φ => obtain ⟨_,⟨_,e⟩,_⟩:=x; exact ⟨_,e⟩
theorem Xl.fresh (x : Xl P w outer H h H' h' B e C) : H' e = none:=by
 obtain ⟨t,_,hb,_⟩:=x.fly
 cases q : H' e with
 | none => rfl
 | some u =>
  obtain ⟨ob,z⟩:=ziT (x.hok e u q)
  rw [hb] at z
  cases z
theorem Xl.un (x : Xl P w outer H h H' h' B e C) (hf : ∀ b ∈ frs outer,H b = none) : Un (frs outer) [] H H' h h' where
 keep:=fun b o q n hb _ => by
  obtain ⟨t,st,_⟩:=x.fly
  exact st _ _ (x.keep b o q n hb)
 slot:=fun b o q n hb _ => x.slot b o q n hb
 free:=fun b o q n _ => x.free b o q n
 there:=fun b o q _ => by
  by_cases hb : b ∈ frs outer
  ·obtain ⟨sl,z⟩:=x.slot b o q (hf b hb) hb
   exact ⟨_,z⟩
  ·obtain ⟨o',z⟩:=x.there b o q hb
   obtain ⟨t,st,_⟩:=x.fly
   exact ⟨o',st _ _ z⟩
 tups:=x.tups
 frzs:=x.frzs
 tbls:=x.tbls
end
section
variable {X : Cx} {σ : St} {H : Hp} {s : Shared} {pins : List (Addr × Obj)}
theorem Inv.hid (I : Inv X pins σ H s) : HOk X.prog X.w H (PySem.W.hideAll s.heap (frs X.stack)):=fun a o q =>
 (I.hok a o q).stay (fun b u hb z => PySem.W.hideAll_get _ z fun m => by
  have n:=I.stkFree b m
  rcases hb with rfl | hb
  ·rw [q] at n; cases n
  ·rw [hb] at n; cases n) (fun _ z => z) fun _ _ z => z
theorem ziU {env : Env} {outer : List Env} {L : Addr} (hf : env.frame = some L) : frs (env :: outer) = L :: frs outer:=by unfold frs; rw [List.filterMap_cons,hf]
theorem Inv.notHere (I : Inv X pins σ H s) {b : Addr} {o : Obj} (q : X.s₀.heap.get? b = some o) : b ≠ X.env.locals:=Nat.ne_of_lt (Nat.lt_of_lt_of_le (Heap.lt_size q) I.ok.above)
end
section
variable {P : Program} {w : World} {K : PySem.W.Frag} {mg : Str → Option Value} {base : Heap} {N : List Str} {qual : Str} {scope : Scope} {f : Addr} {cd : Value} {A : Around} {outer : List Env} {s₀ : Shared} {H₀ : Hp} {E : XK}
abbrev cxX (P : Program) (w : World) (K : PySem.W.Frag) (mg : Str → Option Value) (base : Heap) (N : List Str) (qual : Str) (scope : Scope) (f : Addr) (cd : Value) (A : Around) (outer : List Env) (s : Shared) (H : Hp) (E : XK) : Cx:=zcs (CX1 P w) P w K mg base N qual scope f cd A outer s H E
theorem zgq {pins : List (Addr × Obj)} {σ : St} {H : Hp} {s : Shared} {h1 : Heap} {e C : Addr} {vs : List Value} (I : Inv (cxX P w K mg base N qual scope f cd A outer s₀ H₀ E) pins σ H s) (m : s.heap.MadeExcOf h1 e (.ref C) vs) (q : E (.ref C) none H) :
  (cxX P w K mg base N qual scope f cd A outer s₀ H₀ E).xe (.ref e) { s with heap:=h1 }:=by
 have frm : frs (cxX P w K mg base N qual scope f cd A outer s₀ H₀ E).stack = s₀.heap.objs.size :: frs outer:=ziU rfl
 obtain ⟨t,he,_,_⟩:=m.there
 have stays : (PySem.W.hideAll s.heap (frs (cxX P w K mg base N qual scope f cd A outer s₀ H₀ E).stack)).StaysIn h1:=fun b o z => m.keeps _ _ (PySem.W.of_hideAll _ z)
 have none_e : (PySem.W.hideAll s.heap (frs (cxX P w K mg base N qual scope f cd A outer s₀ H₀ E).stack)).get? e = none:=by
  cases z : (PySem.W.hideAll s.heap (frs (cxX P w K mg base N qual scope f cd A outer s₀ H₀ E).stack)).get? e with
  | none => rfl
  | some o => have:=PySem.W.of_hideAll _ z; rw [m.new] at this; cases this
 refine wpAny_leaving_firstW (base:=PySem.W.hideAll s.heap (frs (cxX P w K mg base N qual scope f cd A outer s₀ H₀ E).stack)) (outer:=outer) I.ok.frames (zcS m.keeps I.stack fun b z => PySem.W.hideAll_none _ z) rfl he stays none_e rfl rfl rfl fun h2 left => ?_
 obtain ⟨st2,ff2,tr2,sl2⟩:=left
 refine ⟨e,C,H,PySem.W.hideAll s.heap (frs (cxX P w K mg base N qual scope f cd A outer s₀ H₀ E).stack),rfl,I.os,I.bare,⟨?_,I.hid,⟨_,st2,none_e,ff2.2.2,tr2⟩,fun b o z n hb => ?_,fun b o z n hb => ?_,fun b o z n => I.base.free b o z n (by simp [cxX,zcs]),fun b o z hb => ?_,I.base.tups,I.base.frzs,I.base.tbls⟩,q⟩
 ·cases z : s₀.heap.get? e with
  | none => rfl
  | some o =>
   obtain ⟨o',z'⟩:=I.base.there e o z (by simp [cxX,zcs])
   rw [m.new] at z'; cases z'
 ·refine PySem.W.hideAll_get _ (I.base.keep b o z n hb (by simp [cxX,zcs])) fun hm => ?_
  rw [frm] at hm
  rcases List.mem_cons.mp hm with z' | z'
  ·exact I.notHere z z'
  ·exact hb z'
 ·obtain ⟨sl,z1⟩:=I.base.slot b o z n hb (by simp [cxX,zcs])
  obtain ⟨_,ob,zo,nd⟩:=I.ok.funs.mem hb
  have eo : ob = o:=by
   have z3 : s₀.heap.get? b = some ob:=zo
   rw [z] at z3; exact (Option.some.inj z3).symm
  subst eo
  obtain ⟨sl',z2⟩:=sl2 b _ (m.keeps _ _ z1) nd
  exact ⟨sl',z2⟩
 ·obtain ⟨o',z1⟩:=I.base.there b o z (by simp [cxX,zcs])
  refine ⟨o',PySem.W.hideAll_get _ z1 fun hm => ?_⟩
  rw [frm] at hm
  rcases List.mem_cons.mp hm with z' | z'
  ·exact I.notHere z z'
  ·exact hb z'
theorem Fun.okX {x : Str} {st : Stmt} {fd : FuncData} {ps : List Str} {k : Nat} {sp : Sp} (F : Fun K x qual st f fd) (S : FnScope N ps (zi st)) (len : ∀ vs H Q E,sp vs H Q E → vs.length = ps.length)
  (hbody : ∀ (cdv : Value) (A : Around) (outer : List Env) (s : Shared) (H : Hp) (vs : List V) (Q : VK) (E : XK),Room k (A.deeper (envOfC qual (zi st) s.heap.objs.size f cdv)) → sp vs H Q E →
   ∃ t,PSs (cxX P w K mg base N qual (zi st) f cdv A outer s H E) (zaN st) t ∧ t { nx:=fun _ H' => Q .non H',rt:=Q } (start N vs) H) : FnOk P w K mg base (CX1 P w) (k + 1) f fd ps sp:=by
 obtain ⟨oc,od,kV,doc,pm,an,cdv,ct,osl,rfl,lk,hcd⟩:=F.ex
 exact zkq lk hcd S len fun A outer s H vs Q E hr hsp => hbody cdv A outer s H vs Q E hr hsp
end
section
variable {X : Cx} {x : Str} {C : Addr} {e : Expr} {te : TE} {np cpos pos : Pos} {E : XK}
def ziV (X : Cx) (E : XK) : Prop:=∀ (pins : List (Addr × Obj)) (σ : St) (H : Hp) (s : Shared) (h1 : Heap) (e C : Addr) (vs : List Value),Inv X pins σ H s → s.heap.MadeExcOf h1 e (.ref C) vs → E (.ref C) none H → X.xe (.ref e) { s with heap:=h1 }
def zla (C : Addr) (E : XK) (te : TE) : TS:=fun _ σ H => zgK te zkR σ H fun vs H1 => vs.length = 1 ∧ E (.ref C) none H1
theorem ziW (hx : ziV X E) (hc : X.calm = true) (hg : Gl X x) (hm : X.mg x = some (.ref C)) (xc : PySem.W.excIn X.K C ziS "ValueError.__new__" = true) (he : PE X e te) (hd : (x == ("__debug__" : Str)) = false:=by decide)
  (hpl : ((backTo cpos (starEach [e] X.env)).any fun x => x.fst) = false:=by rfl) (hst : starEach [e] X.env = (false,eval e X.env) :: starEach [] X.env:=by rfl) :
  PS X (.Raise (some (.Call (.Name x np) [e] [] cpos)) none pos) (zla C E te):=by
 intro pins s σ H D I h
 obtain ⟨nm,q,N,bs,bm,hdct,sn,sub,ab,col,dd,k0,k1,k2,k3,k5,mN,hob,hns,hin,htl⟩:=(zhM I.mod.kin xc).ex
 refine wpAny_Raise_call_subU (nm:=nm) (q:=q) (N:=N) (bs:=bs) (hdct:=hdct) (sn:=sn) (sub:=sub) (ab:=ab) (col:=col) (dd:=dd) (k0:=k0) (k1:=k1) (k2:=k2) (k3:=k3) (k5:=k5) (bm:=bm) (bmB:=ziS) (bmN:=ziS) F.excBase_ValueError rfl F.excBase_ValueError (OwnTail.hasType htl rfl) (I.ok.hd hc) hpl hin (zbY I hg hm ⟨rfl,?_⟩ hd)
 have pa : PA X [e] (zgK te zkR):=za he zg hst
 have go:=pa cpos pins s σ H (fun vs H1 => vs.length = 1 ∧ E (.ref C) none H1) I h
 rw [hst] at go ⊢
 refine Calls.evalArgs_plain (thn go fun us s2 ⟨vs,H2,I2,r2,ql,q2⟩ => ⟨rfl,?_,I2.bk _ _ hob,hns.keeps I2.bk,htl.keeps I2.bk,fun h1 ea m => hx pins σ H2 s2 h1 ea C _ I2 m q2⟩)
 have:=r2.length
 have hsl : 1 ≤ sizeLine:=by decide
 show us.length ≤ sizeLine
 omega
end
end L2
end
section
set_option maxHeartbeats 3999000
namespace L2
open PySem PySem.Spec PyProof.Rows
def zlW (X : Cx) (pins : List (Addr × Obj)) (σ : St) (e : Expr) (t : TE) : Prop:=∀ (s : Shared) (H : Hp) (Q : VK),Inv X pins σ H s → t σ H Q → wpAny (model X.prog X.w) X.A (eval e X.env) (EP X pins σ Q) X.xe s
def zlX (X : Cx) (pins : List (Addr × Obj)) (σ : St) (st : Stmt) (t : TS) : Prop:=∀ (s : Shared) (H : Hp) (D : Ends),Inv X pins σ H s → t D σ H → wpAny (model X.prog X.w) X.A (exec st X.env) (SP X pins D) X.xe s
def zkw (X : Cx) (pins : List (Addr × Obj)) (σ : St) (st : List Stmt) (t : TS) : Prop:=∀ (s : Shared) (H : Hp) (D : Ends),Inv X pins σ H s → t D σ H → wpAny (model X.prog X.w) X.A (execs st X.env) (SP X pins D) X.xe s
def zdF (CX : CXT) (X : Cx) (pins : List (Addr × Obj)) (σ : St) (E : XK) : Prop:=∀ (H : Hp) (s : Shared) (e : Value) (s' : Shared),Inv X pins σ H s → CX X.stack H s E e s' → X.xe e s'
section
variable {X : Cx} {pins : List (Addr × Obj)} {σ : St} {CX : CXT} {k : Nat} {f C : Addr} {fd : FuncData} {ps : List Str} {sp : Sp} {dvs : List V} {ds : List Value} {E : XK} {x m : Str} {p pos apos : Pos} {e o : Expr} {es : List Expr} {ta te : TE} {t : TA}
theorem zhN {H : Hp} {s : Shared} {Q : VK} {us : List Value} {vs : List V} (F : FnOk X.prog X.w X.K X.mg X.base CX k f fd ps sp) (hr : Room k X.A) (hb : Binds X.K fd ps ds) (hd : zA dvs ds) (hx : zdF CX X pins σ E)
  (I : Inv X pins σ H s) (r : zA vs us) (h : sp (vs ++ dvs) H Q E) : wpAny (model X.prog X.w) X.A (call (.ref f) us) (EP X pins σ Q) X.xe s:=by
 have r2 : zA (vs ++ dvs) (us ++ ds):=r.append hd
 have hl : (us ++ ds).length = ps.length:=by rw [← r2.length]; exact F.len _ _ _ _ h
 refine wpAny_call (codeAny_mono (F.run X.A X.stack s H ⟨us,[]⟩ (us ++ ds) (vs ++ dvs) Q E hr I.env0 (hb s us I.kIn hl) r2 h) fun r s' hq => ?_)
 cases r with
 | error e => exact hx H s e s' I hq
 | ok fl =>
  cases fl with
  | ret u => exact I.after hq
  | next => exact False.elim hq
  | brk => exact False.elim hq
  | cont => exact False.elim hq
theorem zgr (F : FnOk X.prog X.w X.K X.mg X.base CX k f fd ps sp) (hr : Room k X.A) (hg : Gl X x) (hm : X.mg x = some (.ref f)) (hk : PySem.W.keepIn X.K (.ref f) = true) (hb : Binds X.K fd ps ds) (hd : zA dvs ds) (hx : zdF CX X pins σ E)
  (ha : PA X (e :: es) t) (hdb : (x == ("__debug__" : Str)) = false:=by decide) (he : starEach (e :: es) X.env = (false,eval e X.env) :: starEach es X.env:=by rfl) (hpl : (backTo pos (starEach es X.env)).any (·.1) = false:=by rfl) :
  zlW X pins σ (.Call (.Name x p) (e :: es) [] pos) (ziv sp dvs E t):=by
 intro s H Q I h
 refine wpAny_Call_Name_kw (zbY I hg hm ?_ hdb)
 refine PySem.W.callWith_K (h₀:=X.base) I.ok.mod.kin hk (thn (ha pos pins s σ H _ I h) fun us s1 ⟨vs,H1,I1,r,q⟩ => ⟨I1.kIn,?_⟩) he hpl
 exact zhN F hr hb hd hx I1 r q
theorem zhO {i : Nat} {pos' : Pos} (hN : X.N.Nodup) (hi : X.N[i]? = some x) (hx : Loc X.env.scope x) (he : zlW X pins σ e te) (hs : swapsWith e (some (.Name x pos')) pos.line X.env = pure false:=by rfl) (hf : X.fn x = true ∨ X.env.scope.names.lookup x = some .local:=by first | exact .inl rfl | exact .inr rfl | assumption) :
  zlX X pins σ (.Assign [.Name x pos'] e pos) (zdU te (zaz i)):=by
 intro s H D I h
 refine wpAny_Assign_Name (thn (he s H _ I h) fun v s1 ⟨y,H1,I1,r1,q1⟩ => ?_) hs
 exact zbs I1 hN hi hx r1 (fun s2 I2 => ⟨_,H1,I2,q1⟩) hf
theorem zgs {st : Stmt} {ts : TS} (h : zlX X pins σ st ts) : zkw X pins σ [st] ts:=by
 intro s H D I h1
 refine wpAny_execs_cons (thn (h s H D I h1) fun f s1 q => ?_)
 cases f with
 | next => exact wpAny_execs_nil q
 | ret v => exact q
 | brk => exact q
 | cont => exact q
end
section
variable {X : Cx} {σ : St} {H : Hp} {s : Shared} {pins : List (Addr × Obj)}
theorem zhP {M : Model} {A : Around} {E : Value → Shared → Prop} {i : Nat} {x : Str} {v : V} {Q : Unit → Shared → Prop} (I : Inv X pins σ H s) (hN : X.N.Nodup) (hi : X.N[i]? = some x) (hk : X.env.scope.names.lookup x = some .local) (hv : σ[i]? = some (some v))
  (h : ∀ s',Inv X pins (σ.set i none) H s' → Q () s') : wpAny M A (unbindName X.env x) Q E s:=by
 obtain ⟨m,hn,hl⟩:=id I.loc
 have hcls : (X.env.scope.kind == .class || (X.env.scope.kind == .module && X.env.locals != X.env.globals)) = false:=by rw [I.ok.kind]; rfl
 have hiσ : i < σ.length:=by rw [I.len]; exact (List.getElem?_eq_some_iff.mp hi).1
 have cne:=I.cne
 obtain ⟨u,r,lk⟩:=hl i x v hi hv (.inl hk)
 have hm : m x = some u:=by
  rcases lk with ⟨_,z⟩ | ⟨z,_⟩
  ·exact z
  ·have z : X.env.scope.names.lookup x = some .cell ∨ X.env.scope.names.lookup x = some .free:=z
   rw [hk] at z
   rcases z with z | z <;> cases z
 refine wpAny_unbindName_local hk hn hm hcls fun h' u' hn' hs => ?_
 obtain ⟨oL,_,_,hoL,_⟩:=id hn
 refine h _ ⟨I.ok,I.os,I.bare,⟨fun b o e n hb hx => ?_,fun b o e n hb hx => ?_,I.base.free,fun b o e hx => ?_,I.base.tups,I.base.frzs,I.base.tbls⟩,⟨_,hn',fun j y v' e1 e2 e3 => ?_⟩,fun y c e => ?_,I.free,I.freeC,fun p hp => ?_,fun b ob e => ?_,by simpa using I.len⟩
 ·exact (hs.2 b (Nat.ne_of_lt (Nat.lt_of_lt_of_le (Heap.lt_size e) I.ok.above))).trans (I.base.keep b o e n hb hx)
 ·obtain ⟨sl,e1⟩:=I.base.slot b o e n hb hx
  exact ⟨sl,(hs.2 b (Nat.ne_of_lt (Nat.lt_of_lt_of_le (Heap.lt_size e) I.ok.above))).trans e1⟩
 ·obtain ⟨o',e1⟩:=I.base.there b o e hx
  exact ⟨o',(hs.2 b (Nat.ne_of_lt (Nat.lt_of_lt_of_le (Heap.lt_size e) I.ok.above))).trans e1⟩
 ·by_cases hj : j = i
  ·subst hj
   rw [List.getElem?_set_self hiσ] at e2
   cases e2
  ·rw [List.getElem?_set_ne (Ne.symm hj)] at e2
   obtain ⟨u',r',q⟩:=hl j y v' e1 e2 e3
   refine ⟨u',r',?_⟩
   rcases q with ⟨k,e⟩ | ⟨k,c,e,z⟩
   ·refine .inl ⟨k,?_⟩
    have : y ≠ x:=fun e => hj (zdp hN e1 (e ▸ hi))
    simp [this,e]
   ·exact .inr ⟨k,c,e,z.sameBut hs (cne y c e)⟩
 ·obtain ⟨w',z⟩:=I.cell y c e
  exact ⟨w',z.sameBut hs (cne y c e)⟩
 ·obtain ⟨e,n,ne,nf,d⟩:=I.pin p hp
  exact ⟨(hs.2 p.1 ne).trans e,n,ne,nf,d⟩
 ·refine (I.hok b ob e).stay (fun c w' hc q => (hs.2 c ?_).trans q) (fun _ q => q) fun _ _ q => q
  rintro rfl
  rcases hc with rfl | hc
  ·rw [I.free] at e; cases e
  ·rw [I.free] at hc; cases hc
theorem Inv.trackX {a : Addr} {o : HO} (I : Inv X pins σ H s) (hn : H a = none) (h0 : X.s₀.heap.get? a = none) (hL : a ≠ X.env.locals) (hc : ∀ x c,X.env.cells.lookup x = some c → c ≠ a) (hp : ∀ p ∈ X.pn ++ pins,p.1 ≠ a) (new : zR X.prog X.w (upd H a o) s.heap a o) :
  Inv X pins σ (upd H a o) s:=by
 have hok : HOk X.prog X.w (upd H a o) s.heap:=fun b u e => by
  by_cases hb : b = a
  ·subst hb
   rw [zb] at e
   cases e
   exact new
  ·rw [zp hb] at e
   exact (I.hok b u e).stay (fun c v _ q => q) (fun c q => by rw [zp (zu q hn)]; exact q) fun c xs q => by rw [zp (zu q hn)]; exact q
 refine ⟨I.ok,I.os,I.bare,⟨I.base.keep,I.base.slot,fun b u e n hx => ?_,I.base.there,fun b xs e => ?_,fun b u xs e => ?_,fun b ps e => ?_⟩,I.loc,I.cell,?_,fun x c e => ?_,fun p hpp => ?_,hok,I.len⟩
 ·rw [zp (fun z => by rw [z,h0] at e; cases e)]
  exact I.base.free b u e n hx
 ·have:=I.base.tups b xs e
  rw [zp (zu this hn)]; exact this
 ·have:=I.base.frzs b u xs e
  rw [zp (zu this hn)]; exact this
 ·obtain ⟨m1,this⟩:=I.base.tbls b ps e
  exact ⟨m1,by rw [zp (zu this hn)]; exact this⟩
 ·rw [zp (Ne.symm hL)]; exact I.free
 ·rw [zp (hc x c e)]; exact I.freeC x c e
 ·obtain ⟨e,n,ne,nf,d⟩:=I.pin p hpp
  exact ⟨e,by rw [zp (hp p hpp)]; exact n,ne,nf,d⟩
end
abbrev Cx.inExc (X : Cx) (e : Addr) : Cx:={ X with A:=X.A.mark (some (.ref e)),calm:=false,xe:=fun _ _ => False }
section
variable {X : Cx} {pins : List (Addr × Obj)} {σ : St} {H : Hp} {s : Shared} {e : Addr}
theorem Cx.Ok.inExc (ok : X.Ok) (e : Addr) : (X.inExc e).Ok :=
 ⟨ok.mod,ok.kind,ok.glob,ok.blt,ok.above,ok.inj,ok.has,ok.cab,fun z => (by cases z),ok.frames,ok.stk,ok.exf,ok.bs,ok.bsz,ok.noex,ok.exfs,ok.funs,ok.frf⟩
theorem Inv.inExc (I : Inv X pins σ H s) (e : Addr) : Inv (X.inExc e) pins σ H s:=⟨I.ok.inExc e,I.os,I.bare,I.base,I.loc,I.cell,I.free,I.freeC,I.pin,I.hok,I.len⟩
theorem Inv.outExc (I : Inv (X.inExc e) pins σ H s) (ok : X.Ok) : Inv X pins σ H s:=⟨ok,I.os,I.bare,I.base,I.loc,I.cell,I.free,I.freeC,I.pin,I.hok,I.len⟩
theorem zfB {M : Model} {A : Around} {E : Value → Shared → Prop} {h : Heap} {g : Array GenState} {d : Drawn} {tk : Nat} {os : OsState} {K : PySem.W.Frag} {C S : Addr} {Q : Bool → Shared → Prop} (X : K.In h) (he : ∃ o,h.get? e = some o ∧ o.cls = .ref C) (hk : PySem.W.kitCls K (.ref C) (.ref S) = some true)
  (hs : PySem.W.mroIn K S (.type "BaseException") = some true) (q : Q true ⟨h,g,d,tk,os⟩) : wpAny M A (excMatches (.ref e) (.ref S)) Q E ⟨h,g,d,tk,os⟩:=by
 obtain ⟨l1,l2,l3⟩:=PySem.W.kit_cls (M:=M) X hk
 unfold excMatches isInstance
 refine wpAny_bind (wpAny_bind (l1.at ?_))
 rw [tc_notTuple]
 refine wpAny_pure (wpAny_ite_false rfl (wpAny_bind (wpAny_pure ?_)))
 dsimp only
 (simp only [List.forIn_cons,List.forIn_nil])
 refine wpAny_bind (wpAny_bind (wpAny_bind ?_))
 unfold isExcClass
 refine wpAny_bind (l2.at (wpAny_ite_true rfl ((PySem.W.looks_mroIn X hs).at ?_)))
 refine wpAny_ite_false rfl (wpAny_pure (wpAny_pure ?_))
 refine wpAny_bind ((zdE he M).at ?_)
 refine wpAny_bind (wpAny_bind (wpAny_bind (l3.at (wpAny_ite_true rfl (wpAny_pure (wpAny_pure ?_))))))
 exact wpAny_pure q
end
end L2
end
section
set_option maxHeartbeats 3999000
namespace L2
open PySem PySem.Spec PyProof.Rows
def Ends.but (D : Ends) (i : Nat) : Ends:={ nx:=fun σ H => D.nx (σ.set i none) H,rt:=D.rt,bk:=fun σ H => D.bk (σ.set i none) H,ct:=fun σ H => D.ct (σ.set i none) H }
def zmm (K : PySem.W.Frag) (S : Addr) (i : Nat) (tb : XK → TS) (th : TS) : TS:=fun D σ H =>
 tb (fun cls _ H' => ∃ C,cls = .ref C ∧ PySem.W.kitCls K (.ref C) (.ref S) = some true ∧ ∀ e,H' e = none → th (D.but i) (σ.set i (some (.ref e))) (upd H' e (ziR e C))) D σ H
section
variable {X : Cx} {x n : Str} {S : Addr} {i : Nat} {body suite : List Stmt} {b₀ : Stmt} {tb : XK → TS} {th : TS} {np hpos pos : Pos}
theorem zlb (hex : X.ex = []) (hstk : X.stack = X.env :: X.outer) (hfr : X.env.frame = some X.env.locals) (hg : Gl X x) (hm : X.mg x = some (.ref S)) (hS : PySem.W.mroIn X.K S (.type "BaseException") = some true)
  (hN : X.N.Nodup) (hi : X.N[i]? = some n) (hk : X.env.scope.names.lookup n = some .local)
  (hb : ∀ (xe : Value → Shared → Prop) (pins : List (Addr × Obj)) (σ : St) (E : XK),zdF (CX1 X.prog X.w) (X.wish xe) pins σ E → zkw (X.wish xe) pins σ body (tb E))
  (hh : ∀ e : Addr,PSs (X.inExc e) (b₀ :: suite) th) (hd : (x == ("__debug__" : Str)) = false:=by decide) :
  PS X (.Try body [.ExceptHandler (some (.Name x np)) (some n) (b₀ :: suite) hpos] [] [] pos) (zmm X.K S i tb th):=by
 intro pins s σ H D I h
 refine wpAny_Try_except ?_
 refine wpAny_mono (hb (fun ev s1 => wpAny (model X.prog X.w) X.A (noteFrame ev X.env) (fun _ s₂ => wpAny (model X.prog X.w) X.A (setFlight ev none) (fun _ s₃ => wpAny (model X.prog X.w) X.A (handleBy ev X.env [ExceptHandler.ExceptHandler (some (Expr.Name x np)) (some n) (b₀ :: suite) hpos]) (SP X pins D) X.xe s₃) X.xe s₂) X.xe s1) pins σ _ ?_ s H D (I.wish _) h) (fun f s1 q => ?_) fun ev s1 z => z
 ·
  intro H1 s1 ev s2 I1 hq
  have I1:=I1.unwish
  obtain ⟨e,C,H',B,rfl,os,bare,L,C',hC,hcl,q⟩:=hq
  cases hC
  obtain ⟨t,fl⟩:=L.fly
  have frs_free : ∀ b ∈ frs X.stack,H1 b = none:=I1.stkFree
  show wpAny _ _ (noteFrame _ _) _ _ _
  have fl0 : B.FlyingW (X.env :: X.outer) e (.ref C) t s2.heap:=by rw [← hstk]; exact fl
  refine wpAny_looks_onW (base:=B) (outer:=X.outer) (by rw [← hstk]; exact I1.ok.frames) hfr fl0 fun h2 held u2 => ?_
  refine wpAny_landsW held fun h3 fl3 u3 => ?_
  have st3 : ∀ (h4 : Heap),B.FlyingW (X.env :: X.outer) e (.ref C) t h4 → s2.heap.UpToSlots h4 → ∀ (tk : Nat),Inv X pins σ H' ⟨h4,s2.gens,s2.drawn,tk,s2.os⟩:=by
   intro h4 fl4 u4 tk
   refine I1.call' (s':=⟨h4,s2.gens,s2.drawn,tk,s2.os⟩) (ch:=[]) os ?_ (L.hok.kept fl4.1) bare (fun b z => absurd z (by simp))
   have U:=L.un frs_free
   refine ⟨fun b o z nn hb _ => fl4.1 _ _ (L.keep b o z nn hb),fun b o z nn hb _ => ?_,U.free,fun b o z _ => ?_,L.tups,L.frzs,L.tbls⟩
   ·obtain ⟨sl,z1⟩:=L.slot b o z nn hb
    obtain ⟨_,ob,zo,nd⟩:=I1.stack.mem hb
    rw [z] at zo
    cases zo
    obtain ⟨sl2,z2⟩:=u4 b _ z1 nd
    exact ⟨sl2,z2⟩
   ·by_cases hb : b ∈ frs X.stack
    ·obtain ⟨sl,z1⟩:=L.slot b o z (frs_free b hb) hb
     obtain ⟨_,ob,zo,nd⟩:=I1.stack.mem hb
     rw [z] at zo
     cases zo
     obtain ⟨sl2,z2⟩:=u4 b _ z1 nd
     exact ⟨_,z2⟩
    ·obtain ⟨o',z1⟩:=L.there b o z hb
     exact ⟨o',fl4.1 _ _ z1⟩
  have I3:=st3 h3 fl3 (u2.trans u3) s2.toks
  refine wpAny_handleBy_cons (codeAny_handlers_test ?_) (by intro z; cases z)
  refine zbY (X:=X.inExc e) (I3.inExc e) hg hm ?_ hd
  refine zfB I3.kIn fl3.there hcl hS ?_
  rw [if_pos rfl]
  (refine codeAny_handlers_suite_as ?_)
  refine PyProof.Rows.lands_againW fl3 fun h4 fl4 u4 => ?_
  have I4:=st3 h4 fl4 ((u2.trans u3).trans u4) s2.toks
  have ne : H' e = none:=L.fresh
  have e0 : X.s₀.heap.get? e = none:=by
   cases z : X.s₀.heap.get? e with
   | none => rfl
   | some o =>
    obtain ⟨o',z'⟩:=I1.base.there e o z (by rw [hex]; simp)
    rw [L.new] at z'; cases z'
  have I5 : Inv X pins σ (upd H' e (ziR e C)) ⟨h4,s2.gens,s2.drawn,s2.toks,s2.os⟩:=by
   refine I4.trackX ne e0 (fun z => ?_) (fun y c hc z => ?_) (fun p hp z => ?_) ?_
   ·obtain ⟨m,⟨o,_,_,ho,_⟩,_⟩:=I1.loc
    rw [← z,L.new] at ho
    cases ho
   ·obtain ⟨v,o,ho,_⟩:=I1.cell y c hc
    rw [z,L.new] at ho
    cases ho
   ·have:=(I1.pin p hp).1
    rw [z,L.new] at this
    cases this
   ·obtain ⟨ob,ho,hcls⟩:=fl4.there
    exact ⟨⟨ob,ho,hcls⟩,⟨ob,ho⟩,fun h1 h2 ⟨o,z,c⟩ k => ⟨o,k o z,c⟩⟩
  refine zbs (X:=X.inExc e) (v:=.ref e) (I5.inExc e) hN hi (.inl hk) rfl (fun s6 I6 => ?_) (.inr hk)
  refine wpAny_mono (hh e pins s6 _ _ (D.but i) I6 (q e ne)) (fun f s7 q7 => ?_) fun _ _ z => z.elim
  have fin : ∀ {σ' : St} {H7 : Hp} {R : Shared → Prop},Inv (X.inExc e) pins σ' H7 s7 → (∀ s8,Inv X pins (σ'.set i none) H7 s8 → R s8) → wpAny (model X.prog X.w) X.A (do bindName X.env n Value.none; unbindBehindTheSuite X.env n hpos) (fun _ s8 => R s8) X.xe s7:=by
   intro σ' H7 R I7 hR
   have I7:=I7.outExc I.ok
   refine wpAny_bind (wpAny_bindName (zbs (v:=.non) I7 hN hi (.inl hk) rfl (fun s8 I8 => ?_) (.inr hk)))
   unfold unbindBehindTheSuite
   refine wpAny_onRaise ?_
   have hil : i < σ'.length:=by rw [I7.len]; exact (List.getElem?_eq_some_iff.mp hi).1
   refine zhP (v:=.non) I8 hN hi hk (by rw [List.getElem?_set_self hil]) fun s9 I9 => hR s9 ?_
   rw [List.set_set] at I9
   exact I9
  cases f with
  | next =>
   obtain ⟨σ',H7,I7,q8⟩:=q7
   exact fin I7 fun s8 I8 => ⟨_,_,I8,q8⟩
  | brk =>
   obtain ⟨σ',H7,I7,q8⟩:=q7
   exact fin I7 fun s8 I8 => ⟨_,_,I8,q8⟩
  | cont =>
   obtain ⟨σ',H7,I7,q8⟩:=q7
   exact fin I7 fun s8 I8 => ⟨_,_,I8,q8⟩
  | ret v =>
   obtain ⟨u,σ',H7,I7,r,q8⟩:=q7
   exact fin I7 fun s8 I8 => ⟨u,_,_,I8,r,q8⟩
 ·cases f with
  | next => exact wpAny_execs_nil (SP.unwish q)
  | ret v => exact SP.unwish q
  | brk => exact SP.unwish q
  | cont => exact SP.unwish q
end
end L2
end
section
set_option maxHeartbeats 3999000
namespace L2
open PySem PySem.Spec PyProof.Rows
structure RoomH (k : Nat) (A : Around) : Prop where
 dp : A.depth + 3 * k + 5 < recursionLimit
 un : A.units + 16 * k + 200 < cLine
theorem RoomH.of {k : Nat} {A : Around} {e : Addr} (r : Room k A) : RoomH k (A.mark (some (.ref e))):=⟨r.dp,r.un⟩
theorem RoomH.deeper {k : Nat} {A : Around} (r : RoomH (k + 1) A) (env : Env) : RoomH k (A.deeper env) :=
 ⟨by have:=r.dp; show A.depth + 1 + 3 * k + 5 < _; omega,by have:=r.un; show A.units + 3 + 16 * k + 200 < _; omega⟩
structure FnOkH (P : Program) (w : World) (K : PySem.W.Frag) (mg : Str → Option Value) (base : Heap) (k : Nat) (f : Addr) (fd : FuncData) (ps : List Str) (sp : Sp) : Prop where
 len : ∀ vs H Q E,sp vs H Q E → vs.length = ps.length
 run : ∀ (A : Around) (outer : List Env) (s : Shared) (H : Hp) (args : Args) (us : List Value) (vs : List V) (Q : VK) (E : XK),RoomH k A → Env0 P w K mg base A outer s H → BindsTo s fd args (ps.zip us) → zA vs us → sp vs H Q E →
  codeAny (model P w) A (.call (.ref f) args) (CR CX0 outer P w H s Q E) s
abbrev cxH (P : Program) (w : World) (K : PySem.W.Frag) (mg : Str → Option Value) (base : Heap) (N : List Str) (qual : Str) (scope : Scope) (f : Addr) (cd : Value) (A : Around) (outer : List Env) (s : Shared) (H : Hp) (E : XK) : Cx :=
 { zcs CX0 P w K mg base N qual scope f cd A outer s H E with calm:=false,xe:=fun _ _ => False }
section
variable {P : Program} {w : World} {K : PySem.W.Frag} {mg : Str → Option Value} {base : Heap}
theorem zlc {k : Nat} {f : Addr} {name qual : Str} {params : Arguments} {body : List Stmt} {scope : Scope} {dV kV doc pm cdv ct oc : Value} {an od : Option Addr}
  {osl : Array (Option Value)} {N ps : List Str} {sp : Sp} (lk : K.lookup f = some ⟨oc,od,.func (PySem.W.fnOf name qual params body scope dV kV doc pm an cdv ct),osl⟩) (hcd : PySem.W.codeIn K cdv qual = true) (S : FnScope N ps scope)
  (len : ∀ vs H Q E,sp vs H Q E → vs.length = ps.length)
  (hbody : ∀ (A : Around) (outer : List Env) (s : Shared) (H : Hp) (vs : List V) (Q : VK) (E : XK),RoomH k (A.deeper (envOfC qual scope s.heap.objs.size f cdv)) → sp vs H Q E →
   ∃ t,PSs (cxH P w K mg base N qual scope f cdv A outer s H E) body t ∧ t { nx:=fun _ H' => Q .non H',rt:=Q } (start N vs) H) :
  FnOkH P w K mg base (k + 1) f (PySem.W.fnOf name qual params body scope dV kV doc pm an cdv ct) ps sp:=by
 refine ⟨len,fun A outer s H args us vs Q E hr e0 hb r hsp => ?_⟩
 have hl:=len _ _ _ _ hsp
 have KX : K.In s.heap:=e0.mod.kin.keeps fun b o e => (e0.bs b o e).1
 have lim : s.heap.NoLimit:=e0.mod.nolimit.keeps fun b o e => (e0.bs b o e).1
 have hkind : ∀ y ∈ ps.zip us,scope.names.lookup y.1 = some .local ∨ (scope.names.lookup y.1 = some .cell ∧ ((cellsFrom (s.heap.objs.size + 1) scope.names []).lookup y.1).isSome = true):=fun ⟨n,v⟩ hy => by
  rcases S.par n (List.of_mem_zip hy).1 with q | q
  ·exact .inl q
  ·exact .inr ⟨q,PySem.W.cellsFrom_some _ _ _ (.inl q)⟩
 refine codeAny_call_function (by have:=hr.dp; omega) (KX _ _ lk) rfl S.co S.gen rfl (PySem.W.codeRec_of KX hcd) (hb _ _ _ _ ?_)
 refine wpAny_newFunctionEnv_cells S.kind hkind fun env he s1 x => ?_
 subst he
 refine ⟨lim.keeps x.toInCall.keep,codeAny_func ?_⟩
 obtain ⟨t,ht,hq⟩:=hbody A outer s H vs Q E (hr.deeper _) hsp
 have e1 : Env0 P w K mg base { A with handled:=none } outer s H:=⟨e0.frames,e0.mod,e0.bs,e0.bsz,e0.funs,e0.frf,e0.hok,e0.bare⟩
 have I0 : Inv (zcs CX0 P w K mg base N qual scope f cdv { A with handled:=none } outer s H E) [] (start N vs) H s1:=zec S rfl e1 hl r x
 have I : Inv (cxH P w K mg base N qual scope f cdv A outer s H E) [] (start N vs) H s1 :=
  ⟨⟨I0.ok.mod,I0.ok.kind,I0.ok.glob,I0.ok.blt,I0.ok.above,I0.ok.inj,I0.ok.has,I0.ok.cab,fun z => (by cases z),I0.ok.frames,I0.ok.stk,I0.ok.exf,I0.ok.bs,I0.ok.bsz,I0.ok.noex,I0.ok.exfs,I0.ok.funs,I0.ok.frf⟩,I0.os,I0.bare,I0.base,I0.loc,I0.cell,I0.free,I0.freeC,I0.pin,I0.hok,I0.len⟩
 refine wpAny_mono (ht [] s1 (start N vs) H _ I hq) (fun fl s' hs => ?_) fun e s' hs => hs.elim
 have fin : ∀ {σ' : St} {H' : Hp} {v : V} {u : Value},Inv (cxH P w K mg base N qual scope f cdv A outer s H E) [] σ' H' s' → RelV v u → Q v H' → CE outer P w H s Q u s' :=
  fun {σ' H' v u} J rv q => ⟨v,H',J.os,J.bare,J.base,J.hok,rv,q⟩
 cases fl with
 | ret u =>
  obtain ⟨v,σ',H',J,rv,q⟩:=hs
  exact fin J rv q
 | next =>
  obtain ⟨σ',H',J,q⟩:=hs
  exact fin (v:=V.non) (u:=Value.none) J rfl q
 | brk =>
  obtain ⟨_,_,_,q⟩:=hs
  exact False.elim q
 | cont =>
  obtain ⟨_,_,_,q⟩:=hs
  exact False.elim q
theorem Fun.okH {x qual : Str} {st : Stmt} {f : Addr} {fd : FuncData} {N ps : List Str} {k : Nat} {sp : Sp} (F : Fun K x qual st f fd) (S : FnScope N ps (zi st)) (len : ∀ vs H Q E,sp vs H Q E → vs.length = ps.length)
  (hbody : ∀ (cdv : Value) (A : Around) (outer : List Env) (s : Shared) (H : Hp) (vs : List V) (Q : VK) (E : XK),RoomH k (A.deeper (envOfC qual (zi st) s.heap.objs.size f cdv)) → sp vs H Q E →
   ∃ t,PSs (cxH P w K mg base N qual (zi st) f cdv A outer s H E) (zaN st) t ∧ t { nx:=fun _ H' => Q .non H',rt:=Q } (start N vs) H) : FnOkH P w K mg base (k + 1) f fd ps sp:=by
 obtain ⟨oc,od,kV,doc,pm,an,cdv,ct,osl,rfl,lk,hcd⟩:=F.ex
 exact zlc lk hcd S len fun A outer s H vs Q E hr hsp => hbody cdv A outer s H vs Q E hr hsp
end
section
variable {X : Cx} {k : Nat} {f : Addr} {fd : FuncData} {ps : List Str} {sp : Sp} {x : Str} {p pos : Pos} {e : Expr} {es : List Expr} {t : TA}
theorem ziX (F : FnOkH X.prog X.w X.K X.mg X.base k f fd ps sp) (hr : RoomH k X.A) (hg : Gl X x) (hm : X.mg x = some (.ref f)) (hk : PySem.W.keepIn X.K (.ref f) = true) (hb : Binds X.K fd ps [])
  (ha : PA X (e :: es) t) (hdb : (x == ("__debug__" : Str)) = false:=by decide) (he : starEach (e :: es) X.env = (false,eval e X.env) :: starEach es X.env:=by rfl) (hpl : (backTo pos (starEach es X.env)).any (·.1) = false:=by rfl) :
  PE X (.Call (.Name x p) (e :: es) [] pos) (ziv sp [] E0 t):=by
 intro pins s σ H Q I h
 refine wpAny_Call_Name_kw (zbY I hg hm ?_ hdb)
 refine PySem.W.callWith_K (h₀:=X.base) I.ok.mod.kin hk (thn (ha pos pins s σ H _ I h) fun us s1 ⟨vs,H1,I1,r,q⟩ => ⟨I1.kIn,?_⟩) he hpl
 have r2 : zA (vs ++ []) (us ++ []):=r.append .nil
 have hl : (us ++ []).length = ps.length:=by rw [← r2.length]; exact F.len _ _ _ _ q
 refine wpAny_call (codeAny_mono (F.run X.A X.stack s1 H1 ⟨us,[]⟩ (us ++ []) (vs ++ []) Q E0 hr I1.env0 (hb s1 us I1.kIn hl) r2 q) fun r s' hq => ?_)
 cases r with
 | error e => exact hq.elim
 | ok fl =>
  cases fl with
  | ret u => exact I1.after hq
  | next => exact False.elim hq
  | brk => exact False.elim hq
  | cont => exact False.elim hq
end
end L2
end
section
set_option maxHeartbeats 3999000
namespace L2
open PySem PySem.Spec PyProof.Rows
theorem zcm : ∀ {bs : List Bool} {us : List Value},zA (bs.map V.bl) us → us = bs.map Value.bool
 | [],_,r => by cases r; rfl
 | b :: bs,_,r => by
  cases r with
  | cons r1 r2 =>
   rw [zcm r2]
   cases r1
   rfl
theorem zcT {h : Heap} : ∀ (bs : List Bool),∃ as,ReadsAll h (bs.map Value.bool) (bs.map PyData.bool) as
 | [] => ⟨_,.nil⟩
 | b :: bs => by
  obtain ⟨as,r⟩:=zcT (h:=h) bs
  exact ⟨_,.cons (by constructor) r⟩
theorem zcU : ∀ (bs : List Bool),(bs.map PyData.bool).all Spec.Shape.bool.has = true
 | [] => rfl
 | _ :: bs => by
  rw [List.map_cons,List.all_cons,zcU bs]
  rfl
theorem zfC {bs : List Bool} (k : Bool) (y : Value) (hy : y ∈ bs.map Value.bool) (A : Around) (s : Shared) : SeqAt.EqAt A s y (.bool k) (isBoolOf k y):=by
 obtain ⟨as,r⟩:=zcT (h:=s.heap) bs
 exact eq_isBoolOf k r (zcU bs) y hy A s
theorem zcw (k : Bool) : ∀ bs : List Bool,List.countP (isBoolOf k) (bs.map Value.bool) = bs.count k
 | [] => rfl
 | b :: bs => by
  rw [List.map_cons,List.countP_cons,List.count_cons,zcw k bs]
  rfl
section
variable {X : Cx}
def zjW : V → List V → Hp → VK → Prop:=fun x vs H Q => ∃ (l : Addr) (bs : List Bool) (k : Bool),x = .ref l ∧ vs = [.bl k] ∧ H l = some (.lst (bs.map V.bl)) ∧ Q (.int ((bs.count k : Nat) : Int)) H
theorem zhQ : MtM X "list.count" zjW:=by
 intro pins s σ H x vs v us Q I rx rv h
 obtain ⟨l,bs,k,rfl,rfl,hH,q⟩:=h
 cases rx
 obtain ⟨u,rfl,ru⟩:=rv.one
 cases ru
 obtain ⟨z,its,n,r,hl,e⟩:=I.lstM hH
 have hi:=zcm r
 subst hi
 refine call_meets F.slot_list_count ⟨_,e,rfl⟩ F.entry_list_count (F.args_list_count_2 _ _) (SeqAt.list_countAt l _ n _ _ (.bool k) (isBoolOf k)) ⟨e,fun y hy => zfC (bs:=bs) k y (by simpa using hy) _ _,?_⟩
 rw [List.toList_toArray,zcw]
 exact ⟨.int ((bs.count k : Nat) : Int),H,I.tok _,⟨_,rfl⟩,q⟩
def zjX : V → List V → Hp → VK → Prop:=fun x vs H Q => ∃ (l : Addr) (bs : List Bool) (k : Bool) (j : Nat),x = .ref l ∧ vs = [.bl k] ∧ H l = some (.lst (bs.map V.bl)) ∧ bs[j]? = some k ∧ (∀ m,m < j → bs[m]? = some (!k)) ∧ j < 1000 ∧ Q (.int (j : Int)) H
theorem zhR : MtM X "list.index" zjX:=by
 intro pins s σ H x vs v us Q I rx rv h
 obtain ⟨l,bs,k,j,rfl,rfl,hH,hj,hm,h1000,q⟩:=h
 cases rx
 obtain ⟨u,rfl,ru⟩:=rv.one
 cases ru
 obtain ⟨z,its,n,r,hl,e⟩:=I.lstM hH
 have hi:=zcm r
 subst hi
 obtain ⟨hjl,hje⟩:=List.getElem?_eq_some_iff.mp hj
 refine call_meets F.slot_list_index ⟨_,e,rfl⟩ F.entry_list_index (F.args_list_index_2 _ _) (SeqAt.list_indexAt l _ n _ _ (.bool k) (isBoolOf k) j (by simpa using hjl) (by omega) ?_ ?_) ⟨e,fun y hy => zfC (bs:=bs) k y (by simpa using hy) _ _,?_⟩
 ·simp [isBoolOf,hje]
 ·intro m h1 h2
  have:=hm m h2
  obtain ⟨_,hme⟩:=List.getElem?_eq_some_iff.mp this
  simp [isBoolOf,hme]
 ·exact ⟨.int (j : Int),H,I.tok _,⟨_,rfl⟩,q⟩
end
section
variable {X : Cx} {tg : Expr}
end
def strsOf : List Expr → Option (List Str)
 | [] => some []
 | .Constant (.str i) _ _ :: r => (strsOf r).map (i :: ·)
 | _ => none
def zfD (ns : List Str) : TA:=fun _ H Q => Q (ns.map V.str) H
theorem zjY {X : Cx} : ∀ (es : List Expr) (ns : List Str),strsOf es = some ns → PA X es (zfD ns):=by
 intro es
 induction es with
 | nil =>
  intro ns h
  have e : ns = []:=(Option.some.inj h).symm
  subst e
  exact zg
 | cons e r ih =>
  intro ns h
  unfold strsOf at h
  split at h
  ·rename_i heq
   cases heq
  ·rename_i i j p r' heq
   injection heq with e1 e2
   subst e1 e2
   cases hr : strsOf r with
   | none => rw [hr] at h; cases h
   | some ms =>
    rw [hr] at h
    have e : i :: ms = ns:=Option.some.inj h
    subst e
    exact za zdq (ih ms hr)
  ·cases h
theorem ziY {X : Cx} {i : Nat} {x : Str} {pos' pos2 spos : Pos} {rest : List Stmt} {u : TS} {es : List Expr} {ns : List Str} (h : strsOf es = some ns) (hN : X.N.Nodup) (hi : X.N[i]? = some x) (hx : Loc X.env.scope x)
  (hf : X.fn x = true ∨ X.env.scope.names.lookup x = some .local) (hr : PSs X rest u) : PSs X (.Assign [.Name x pos'] (.List es pos2) spos :: rest) (zkK (zdU (zge (zfD ns)) (zaz i)) u):=by
 have h1 : PE X (.List es pos2) (zge (zfD ns)):=@zL X es (zfD ns) pos2 (@zjY X es ns h)
 have h2 : PS X (.Assign [.Name x pos'] (.List es pos2) spos) (zdU (zge (zfD ns)) (zaz i)):=zn hN hi hx h1 (by rfl) hf
 exact zf h2 hr
end L2
end
section
set_option maxHeartbeats 3999000
namespace L2
open PySem PySem.Spec PyProof.Rows
section
variable {κ : Type} [DecidableEq κ]
def zgt (kvs : List (κ × V)) (k : κ) : Option V:=(kvs.find? fun kv => decide (kv.1 = k)).map (·.2)
def putK (kvs : List (κ × V)) (k : κ) (v : V) : List (κ × V) :=
 if (kvs.any fun kv => decide (kv.1 = k)) = true then kvs.map (fun kv => if kv.1 = k then (kv.1,v) else kv) else kvs ++ [(k,v)]
theorem zfE {p : κ × V} {r : List (κ × V)} {k : κ} (e : p.1 = k) : zgt (p :: r) k = some p.2:=by simp [zgt,List.find?_cons,e]
theorem zfF {p : κ × V} {r : List (κ × V)} {k : κ} (e : ¬ p.1 = k) : zgt (p :: r) k = zgt r k:=by simp [zgt,List.find?_cons,e]
theorem zfG (k : κ) : ∀ kvs : List (κ × V),(kvs.any fun kv => decide (kv.1 = k)) = (zgt kvs k).isSome
 | [] => rfl
 | p :: r => by
  rw [List.any_cons]
  by_cases e : p.1 = k
  ·simp only [zfE e,decide_eq_true e,Bool.true_or,Option.isSome_some]
  ·rw [zfF e,decide_eq_false e,Bool.false_or]; exact zfG k r
theorem zcV (kvs : List (κ × V)) (k : κ) (v : V) : (putK kvs k v).length ≤ kvs.length + 1:=by
 unfold putK
 split
 ·rw [List.length_map]; omega
 ·rw [List.length_append,List.length_cons,List.length_nil]; omega
theorem zhm.isSome_eq {o : Option V} {u : Option Value} (r : zhm o u) : o.isSome = u.isSome:=by
 cases o with
 | none => cases u with
  | none => rfl
  | some _ => exact (show False from r).elim
 | some _ => cases u with
  | none => exact (show False from r).elim
  | some _ => rfl
theorem KV.any {kvs : List (κ × V)} {vs : List (κ × Value)} (r : KV kvs vs) (k : κ) : (kvs.any fun kv => decide (kv.1 = k)) = vs.any fun kv => decide (kv.1 = k):=by
 unfold KV at r
 induction r with
 | nil => rfl
 | cons h t ih => rw [List.any_cons,List.any_cons,ih,h.1]
theorem KV.repl {kvs : List (κ × V)} {vs : List (κ × Value)} (r : KV kvs vs) (k : κ) {y : V} {u : Value} (ry : RelV y u) :
  KV (kvs.map fun kv => if kv.1 = k then (kv.1,y) else kv) (vs.map fun kv => if kv.1 = k then (kv.1,u) else kv):=by
 unfold KV at r ⊢
 induction r with
 | nil => exact .nil
 | @cons p q ps qs h t ih =>
  rw [List.map_cons,List.map_cons]
  refine .cons ?_ ih
  obtain ⟨h1,h2⟩:=h
  by_cases e : p.1 = k
  ·rw [if_pos e,if_pos (h1.symm.trans e)]; exact ⟨h1,ry⟩
  ·rw [if_neg e,if_neg (fun z => e (h1.trans z))]; exact ⟨h1,h2⟩
theorem KV.put {kvs : List (κ × V)} {vs : List (κ × Value)} (r : KV kvs vs) (k : κ) {y : V} {u : Value} (ry : RelV y u) : KV (putK kvs k y) (stored vs k u):=by
 unfold putK stored
 rw [r.any k]
 by_cases e : (vs.any fun kv => decide (kv.1 = k)) = true
 ·rw [if_pos e,if_pos e]; exact r.repl k ry
 ·rw [if_neg e,if_neg e]; exact Paired.snoc r ⟨rfl,ry⟩
theorem KV.length {kvs : List (κ × V)} {vs : List (κ × Value)} (r : KV kvs vs) : kvs.length = vs.length:=Paired.length r
end
theorem zkx {P : Program} {w : World} {k : Key} {u : Value} (r : RelV (kV k) u) : (zap P w).is k u = true:=by
 cases k with
 | inl i => obtain ⟨t,e⟩:=(show ∃ t,u = Value.int i t from r); subst e; exact zfc P w i t
 | inr x => obtain ⟨t,e⟩:=(show ∃ t,u = Value.str x t from r); subst e; exact zfd P w x t
theorem zes {P : Program} {w : World} : ∀ {ks : List Key} {us : List Value},zA (ks.map kV) us → ItemsAre (zap P w) ks us
 | [],_,r => by rw [List.map_nil] at r; cases r; exact .nil
 | k :: ks,_,r => by
  rw [List.map_cons] at r
  cases r with
  | cons h t => exact .cons (zkx h) (zes t)
abbrev KT (H : Hp) : List (List Key × V) → List (List Key × Addr × Value) → Prop:=Paired fun p q => p.1 = q.1 ∧ H q.2.1 = some (.tup (p.1.map kV)) ∧ RelV p.2 q.2.2
theorem KT.val {H : Hp} {kvs : List (List Key × V)} {xs : List (List Key × Addr × Value)} (r : KT H kvs xs) (k : List Key) : zhm (zgt kvs k) ((atKey xs k).map (·.2)):=by
 induction r with
 | nil => exact True.intro
 | @cons p q ps qs h t ih =>
  obtain ⟨h1,_,h2⟩:=h
  by_cases e : p.1 = k
  ·have e' : q.1 = k:=h1.symm.trans e
   have b : atKey (q :: qs) k = some q.2:=by simp [atKey,List.find?_cons,e']
   rw [zfE e,b]; exact h2
  ·have e' : ¬ q.1 = k:=fun z => e (h1.trans z)
   have b : atKey (q :: qs) k = atKey qs k:=by simp [atKey,List.find?_cons,e']
   rw [zfF e,b]; exact ih
theorem KT.repl {H : Hp} {kvs : List (List Key × V)} {xs : List (List Key × Addr × Value)} (r : KT H kvs xs) (k : List Key) {y : V} {u : Value} (ry : RelV y u) :
  KT H (kvs.map fun kv => if kv.1 = k then (kv.1,y) else kv) (xs.map (putAt k u)):=by
 induction r with
 | nil => exact .nil
 | @cons p q ps qs h t ih =>
  rw [List.map_cons,List.map_cons]
  refine .cons ?_ ih
  obtain ⟨h1,h2,h3⟩:=h
  unfold putAt
  by_cases e : p.1 = k
  ·rw [if_pos e,if_pos (h1.symm.trans e)]; exact ⟨h1,h2,ry⟩
  ·rw [if_neg e,if_neg (fun z => e (h1.trans z))]; exact ⟨h1,h2,h3⟩
theorem KT.put {H : Hp} {kvs : List (List Key × V)} {xs : List (List Key × Addr × Value)} (r : KT H kvs xs) (k : List Key) {b : Addr} {y : V} {u : Value} (hb : H b = some (.tup (k.map kV))) (ry : RelV y u) :
  KT H (putK kvs k y) (storedH xs k b u):=by
 have e : (kvs.any fun kv => decide (kv.1 = k)) = (atKey xs k).isSome:=by
  rw [zfG,(r.val k).isSome_eq,Option.isSome_map]
 unfold putK storedH
 rw [e]
 by_cases q : (atKey xs k).isSome = true
 ·rw [if_pos q,if_pos q]; exact r.repl k ry
 ·rw [if_neg q,if_neg q]; exact Paired.snoc r ⟨rfl,hb,ry⟩
theorem KT.keeps {H H' : Hp} {kvs : List (List Key × V)} {xs : List (List Key × Addr × Value)} (r : KT H kvs xs) (ht : ∀ b ys,H b = some (.tup ys) → H' b = some (.tup ys)) : KT H' kvs xs :=
 Paired.mapP r fun _ _ z => ⟨z.1,ht _ _ z.2.1,z.2.2⟩
section
variable {P : Program} {w : World} {H : Hp} {h : Heap} {a : Addr}
theorem zky {u : HO} (ok : HOk P w H h) (e : Rd H a u) : zR P w H h a u:=e.ok ok
theorem zlY {kvs : List (Key × V)} (ok : HOk P w H h) (e : Rd H a (.dK kvs)) : kvs.length ≤ sizeLine ∧ (a == sysModules) = false ∧ ∃ vs,KV kvs vs ∧ h.DictOf (zap P w) a vs :=
 show zR P w H h a (.dK kvs) from zky ok e
theorem zlZ {kvs : List (Key × V)} (ok : HOk P w H h) (e : H a = some (.dK kvs)) : kvs.length ≤ sizeLine ∧ (a == sysModules) = false ∧ ∃ vs,KV kvs vs ∧ h.DictOf (zap P w) a vs:=zlY ok (.inl e)
theorem ziZ {ks : List Key} (ok : HOk P w H h) (e : H a = some (.tup (ks.map kV))) : (tupleKind (zap P w)).is h ks a:=by
 obtain ⟨_,its,r,o,h1,h2,n,h3⟩:=(show zR P w H h a (.tup (ks.map kV)) from ok a _ e)
 exact ⟨o,its.toArray,n,h1,h2,h3,by simpa using zes r⟩
theorem zl0 {kvs : List (List Key × V)} (ok : HOk P w H h) (e : Rd H a (.dT kvs)) : kvs.length ≤ sizeLine ∧ (a == sysModules) = false ∧
  ∃ xs,KT H kvs xs ∧ h.DictOfH (tupleKind (zap P w)) a xs:=by
 obtain ⟨z,y,xs,r,o,es,ep,h1,h2,h3,h4,h5⟩:=(show zR P w H h a (.dT kvs) from zky ok e)
 refine ⟨z,y,xs,r,o,es,ep,h1,h2,h3,h4,fun x hx => ?_,h5⟩
 have all : ∀ {l : List (List Key × V)} {m : List (List Key × Addr × Value)},KT H l m → ∀ x ∈ m,(tupleKind (zap P w)).is h x.1 x.2.1:=by
  intro l m q
  induction q with
  | nil => intro x hx; exact nomatch hx
  | @cons p q ps qs hq t ih =>
   intro x hx
   rcases List.mem_cons.mp hx with e | hx
   ·subst e
    exact ziZ ok (by rw [← hq.1]; exact hq.2.1)
   ·exact ih x hx
 exact all r x hx
theorem zl1 {kvs : List (List Key × V)} (ok : HOk P w H h) (e : H a = some (.dT kvs)) : kvs.length ≤ sizeLine ∧ (a == sysModules) = false ∧
  ∃ xs,KT H kvs xs ∧ h.DictOfH (tupleKind (zap P w)) a xs:=zl0 ok (.inl e)
end
def zhS (H : Hp) (a : Addr) (y v : V) (H' : Hp) : Prop :=
 (∃ kvs k,H a = some (.dK kvs) ∧ y = kV k ∧ kvs.length < sizeLine ∧ H' = upd H a (.dK (putK kvs k v))) ∨
 ∃ kvs k b,H a = some (.dT kvs) ∧ y = .ref b ∧ H b = some (.tup (k.map kV)) ∧ kvs.length < sizeLine ∧ H' = upd H a (.dT (putK kvs k v))
theorem zhS.t {H : Hp} {a b : Addr} {kvs : List (List Key × V)} {k : List Key} {v : V} (e : H a = some (.dT kvs)) (eb : H b = some (.tup (k.map kV))) (hl : kvs.length < sizeLine) :
  zhS H a (.ref b) v (upd H a (.dT (putK kvs k v))):=.inr ⟨kvs,k,b,e,rfl,eb,hl,rfl⟩
section
variable {X : Cx} {pins : List (Addr × Obj)} {σ : St} {H : Hp} {s : Shared} {a : Addr} {y v : V} {u r : Value} {o : Option V} {A : Around} {E : Value → Shared → Prop}
theorem Inv.big (I : Inv X pins σ H s) : sysModules < s.heap.objs.size:=by
 have h : mainGlobals < s.heap.objs.size:=(I.mod.glob.keeps I.bk).lt
 exact Nat.lt_trans (by decide) h
theorem zgW {h' : Heap} {t' : Nat} {ob : HO} (I : Inv X pins σ H s) (mu : Mut (H a)) (hs : Heap.SameBut a s.heap h') (he : ∃ q,h'.get? a = some q) (new : zR X.prog X.w (upd H a ob) h' a ob) :
  Inv X pins σ (upd H a ob) { s with heap:=h',toks:=t' } :=
 I.write (x:=a) (e:=a) mu (.inl rfl) (fun b q hb z => (hs.2 b hb).trans z) he new
theorem zld {P : Program} {w : World} {H' : Hp} {h' : Heap} {kvs : List (Key × V)} {vs : List (Key × Value)} (z : kvs.length ≤ sizeLine) (hd : (a == sysModules) = false) (rel : KV kvs vs) (dd : h'.DictOf (zap P w) a vs) :
  zR P w H' h' a (.dK kvs):=⟨z,hd,vs,rel,dd⟩
theorem zhT {H' : Hp} {Q : Unit → Shared → Prop} (hu : A.units + 1 < cLine) (I : Inv X pins σ H s) (g : zhS H a y v H') (ry : RelV y u) (rv : RelV v r) (h : ∀ s',Inv X pins σ H' s' → Q () s') :
  wpAny (model X.prog X.w) A (setItem (.ref a) u r) Q E s:=by
 rcases g with ⟨kvs,k,e,ey,l,eH⟩ | ⟨kvs,k,b,e,ey,eb,l,eH⟩
 ·subst ey eH
  obtain ⟨z,hd,vs,rel,dd⟩:=zlZ I.hok e
  have hz : vs.length ≤ sizeLine:=by rw [← rel.length]; exact z
  have hl : (putK kvs k v).length ≤ sizeLine:=by have:=zcV kvs k v; omega
  refine wpAny_setItem_pairs (hsz:=hz) (zkx ry) dd fun h' dd' hs => h _ ?_
  have he : ∃ q,h'.get? a = some q:=let ⟨q,_,_,hq,_⟩:=dd'; ⟨q,hq⟩
  exact zgW I (by rw [e]; exact True.intro) hs he (zld hl hd (rel.put k rv) dd')
 ·subst ey eH
  cases (show u = Value.ref b from ry)
  obtain ⟨z,hd,xs,rel,dd⟩:=zl1 I.hok e
  have hz : xs.length ≤ sizeLine:=by rw [← Paired.length rel]; exact z
  have hl : (putK kvs k v).length ≤ sizeLine:=by have:=zcV kvs k v; omega
  refine wpAny_setItem_heap (hsz:=hz) (tupleKind_room_in1 hu) (ziZ I.hok eb) dd fun h' dd' hs => h _ ?_
  obtain ⟨q,es,ep,hq,h2,h3,h4,_,h5⟩:=dd'
  refine zgW I (by rw [e]; exact True.intro) hs ⟨q,hq⟩ ⟨hl,hd,_,(rel.put k eb rv).keeps fun c ys ec => ?_,q,es,ep,hq,h2,h3,h4,h5⟩
  rw [zp (zlw ec e (fun z => nomatch z))]
  exact ec
end
section
variable {X : Cx} {pins : List (Addr × Obj)} {σ : St} {H : Hp} {s : Shared} {a : Addr} {kvs : List (Key × V)} {k : Key} {u : Value} {A : Around} {E : Value → Shared → Prop}
end
def zl2 (td ty tv : TE) : TS:=fun D σ H => tv σ H fun v H1 => td σ H1 fun x H2 => ty σ H2 fun y H3 => ∃ a H4,x = .ref a ∧ zhS H3 a y v H4 ∧ D.nx σ H4
section
variable {X : Cx} {o i e value : Expr} {pos pos' tpos : Pos} {td ty tv : TE}
theorem zgX (hu : X.A.units + 1 < cLine) (ho : PE X o td) (hi : PE X i ty) (hv : PE X value tv) (hs : swapsWith value (some (.Subscript o i pos')) pos.line X.env = pure false) :
  PS X (.Assign [.Subscript o i pos'] value pos) (zl2 td ty tv):=by
 intro pins s σ H D I h
 refine wpAny_Assign_Subscript (thn (hv pins s σ H _ I h) fun r s1 ⟨v,H1,I1,rv,q1⟩ => thn (ho pins s1 σ H1 _ I1 q1) fun u s2 ⟨x,H2,I2,rx,q2⟩ => thn (hi pins s2 σ H2 _ I2 q2) fun iv s3 ⟨y,H3,I3,ry,a,H4,ex,g,q3⟩ => ?_) hs
 subst ex
 obtain rfl : u = Value.ref a:=rx
 exact zhT hu I3 g ry rv fun s4 I4 => ⟨σ,H4,I4,q3⟩
end
theorem zi0 {P : Program} {w : World} {H : Hp} (h : Heap) (hb : sysModules < h.objs.size) : zR P w H (h.push { cls:=.type "dict",data:=.dict #[] }) h.objs.size (.dT []) :=
 ⟨Nat.zero_le _,beq_eq_false_iff_ne.mpr (Ne.symm (Nat.ne_of_lt hb)),[],.nil,_,#[],0,Heap.get?_push_size _ rfl,⟨rfl,rfl,rfl⟩,rfl,rfl,List.nodup_nil⟩
def zle : TE:=fun _ H Q => ∀ p,H p = none → Q (.ref p) (upd H p (.dT []))
section
variable {X : Cx} {pos : Pos}
theorem zfH : PE X (.Dict [] [] pos) zle:=fun pins s σ H Q I h =>
 wpAny_Dict_empty ⟨.ref s.heap.objs.size,_,I.laid (a:=s.heap.objs.size) (o:=.dT []) (t':=s.toks) (fun _ _ q => Heap.get?_push_of_some _ q) (Nat.le_refl _) (zi0 s.heap I.big),rfl,h _ (I.hok.fresh (Nat.le_refl _))⟩
end
structure M1 (X : Cx) (o : Expr) (m : Str) (apos : Pos) (e : Expr) (cpos : Pos) : Prop where
 base : attributeBase o m X.env (eval o X.env) = eval o X.env
 few : ((backTo cpos (starEach [e] X.env)).all (fun x => !x.1) && (backToKw cpos (keywordEach [] X.env)).all (fun x => x.1.isSome)
  && decide (([e] : List Expr).length + ([] : List Keyword).length + (if ([] : List Keyword).isEmpty then 0 else 1) < 30)) = true
 line : (apos.endLine == cpos.line) = true
 trees : backTo cpos (starEach [e] X.env) = [(false,eval e X.env)]
structure M2 (X : Cx) (o : Expr) (m : Str) (apos : Pos) (e f : Expr) (cpos : Pos) : Prop where
 base : attributeBase o m X.env (eval o X.env) = eval o X.env
 few : ((backTo cpos (starEach [e,f] X.env)).all (fun x => !x.1) && (backToKw cpos (keywordEach [] X.env)).all (fun x => x.1.isSome)
  && decide (([e,f] : List Expr).length + ([] : List Keyword).length + (if ([] : List Keyword).isEmpty then 0 else 1) < 30)) = true
 line : (apos.endLine == cpos.line) = true
 trees : backTo cpos (starEach [e,f] X.env) = [(false,eval e X.env),(false,eval f X.env)]
section
variable {X : Cx} {pins : List (Addr × Obj)} {σ : St} {H : Hp} {s : Shared} {a : Addr} {y d : V} {u r : Value} {o : Option V} {A : Around} {E : Value → Shared → Prop}
end
section
variable {X : Cx} {o e f : Expr} {apos cpos : Pos} {td ty tx : TE}
end
end L2
end
section
set_option maxHeartbeats 3998000
namespace L2
open PySem PySem.Spec PyProof.Rows
end L2
namespace PySem
open PyProof.Rows
section
variable {prog : Program} {w : World} {A : Around} {E : Value → Shared → Prop} {s : Shared}
end
end PySem
namespace L2
open PySem PySem.Spec PyProof.Rows
end L2
end
section
set_option maxHeartbeats 3997000
namespace L2
open PySem PySem.Spec PyProof.Rows
end L2
namespace My
open PySem L2 PyProof.Rows
section
variable {K : PySem.W.Frag}
structure RowAt (K : PySem.W.Frag) (H : Hp) (r : Addr) (n : Nat) (rw : List (Option Int)) : Prop where
 at' : SqL K H r (rw.map enc)
 len : rw.length = n
end
end My
end
section
set_option maxHeartbeats 3999000
namespace L2
open PySem PySem.Spec PyProof.Rows
abbrev TM:=List V → St → Hp → (List V → Hp → Prop) → Prop
abbrev zc0 (its : List Value) (nn : Nat) : Obj:={ cls:=.type "list",data:=.seq its.toArray nn }
structure AccAt (Y : Cx) (pins : List (Addr × Obj)) (H : Hp) (s : Shared) (D : Addr) (ys : List V) (its : List Value) (nn : Nat) : Prop where
 fp : zbg Y pins H D
 here : s.heap.get? D = some (zc0 its nn)
 vals : zA ys its
 len : ys.length ≤ sizeLine
def zeW (js : List Nat) (σ : St) : Prop:=∀ j ∈ js,∀ v,σ[j]? ≠ some (some v)
def Kp (js : List Nat) (σ σ2 : St) : Prop:=σ2.length = σ.length ∧ ∀ j,j ∉ js → σ2[j]? = σ[j]?
theorem Kp.refl {js : List Nat} {σ : St} : Kp js σ σ:=⟨rfl,fun _ _ => rfl⟩
theorem Kp.set {js : List Nat} {σ σ2 : St} {i : Nat} {v : Option V} (hi : i ∈ js) (h : Kp js σ σ2) : Kp js σ (σ2.set i v):=by
 refine ⟨by rw [List.length_set]; exact h.1,fun j hj => ?_⟩
 rw [List.getElem?_set_ne (fun z => hj (by rw [← z]; exact hi))]
 exact h.2 j hj
def GS (js : List Nat) (g : TG) : Prop:=∀ (σ σ1 : St) (x : V) (H : Hp) (Q : St → Hp → Prop),Kp js σ σ1 → g x σ1 H Q → g x σ1 H fun σ2 H2 => Kp js σ σ2 ∧ Q σ2 H2
def GSs (js : List Nat) (g : TGs) : Prop:=∀ (σ σ1 : St) (xs : List V) (H : Hp) (Q : St → Hp → Prop),Kp js σ σ1 → g xs σ1 H Q → g xs σ1 H fun σ2 H2 => Kp js σ σ2 ∧ Q σ2 H2
theorem zjZ {js : List Nat} {i : Nat} (hi : i ∈ js) : GS js (zaz i):=fun σ σ1 x H Q hw h => ⟨hw.set hi,h⟩
theorem zj0 {js : List Nat} : GSs js zho:=fun σ σ1 xs H Q hw h => ⟨h.1,hw,h.2⟩
theorem zfI {js : List Nat} {i : Nat} {u : TGs} (hi : i ∈ js) (h2 : GSs js u) : GSs js (zcc (zaz i) u):=fun σ σ1 xs H Q hw h => by
 obtain ⟨v,r,e,h⟩:=h
 exact ⟨v,r,e,h2 σ _ r H Q (hw.set hi) h⟩
theorem zlf {js : List Nat} {K : PySem.W.Frag} {n : Nat} {t : TGs} (h : GSs js t) : GS js (zgb K n t):=fun σ σ1 x H Q hw hg => by
 obtain ⟨a,xs,e,hq,hl,hg⟩:=hg
 exact ⟨a,xs,e,hq,hl,h σ σ1 xs H Q hw hg⟩
theorem Inv.fewer {X : Cx} {pins pins' : List (Addr × Obj)} {σ : St} {H : Hp} {s : Shared} (I : Inv X pins σ H s) (h : ∀ p ∈ pins',p ∈ pins) : Inv X pins' σ H s :=
 I.pins_of fun p hp => I.pin p (List.mem_append_right _ (h p hp))
section
variable {Y : Cx} {pins : List (Addr × Obj)} {σ : St} {H : Hp} {s : Shared} {D : Addr} {ys : List V} {its : List Value} {nn : Nat}
theorem AccAt.pin (a : AccAt Y pins H s D ys its nn) (I : Inv Y pins σ H s) : Inv Y (pins ++ [(D,zc0 its nn)]) σ H s :=
 I.pins_of fun p hp => by
  rcases (List.mem_append.mp hp) with hp | hp
  ·exact I.pin p (List.mem_append_right _ hp)
  ·obtain rfl : p = (D,zc0 its nn):=by simpa using hp
   obtain ⟨a0,a1,a2,_⟩:=a.fp
   exact ⟨a.here,a0,a1,a2,fun v z => by cases z⟩
theorem AccAt.back {pins' : List (Addr × Obj)} {σ' : St} {H' : Hp} {s' : Shared} (a : AccAt Y pins H s D ys its nn) (I : Inv Y pins' σ' H' s') (hm : (D,zc0 its nn) ∈ pins') : AccAt Y pins H' s' D ys its nn:=by
 have p:=I.pin (D,zc0 its nn) (List.mem_append_right _ hm)
 exact ⟨⟨p.2.1,a.fp.2⟩,p.1,a.vals,a.len⟩
end
def PM (Y : Cx) (D : Addr) (js : List Nat) (mk : Sem Fin → Sem Fin) (tm : TM) : Prop :=
 ∀ (last : Sem Fin) (pins : List (Addr × Obj)) (s : Shared) (σ : St) (H : Hp) (ys : List V) (its : List Value) (nn : Nat) (Q : List V → Hp → Prop) (Φ : Fin → Shared → Prop),Inv Y pins σ H s → AccAt Y pins H s D ys its nn → zeW js σ → tm ys σ H Q →
  (∀ (s' : Shared) (ys' : List V) (its' : List Value) (nn' : Nat) (H' : Hp),Inv Y pins σ H' s' → AccAt Y pins H' s' D ys' its' nn' → Q ys' H' → wpAny (model Y.prog Y.w) Y.A last Φ (fun _ _ => False) s') →
  wpAny (model Y.prog Y.w) Y.A (mk last) Φ (fun _ _ => False) s
def zi1 (elt : Expr) (acc : Value) (env : Env) (last : Sem Fin) : Sem Fin:=(eval elt env >>= fun x => call (.builtin "list.append") [acc,x] >>= fun _ => pure ()) >>= fun _ => last
def zgY (e iter : Expr) (d : Nat) (acc : Value) (env : Env) (last : Sem Fin) : Sem Fin :=
 eval iter env >>= fun x => standAt iter.pos >>= fun _ => foldedSetIterable iter env x >>= fun x => holding [x] (pyIter x) >>= fun itv => runOwn (.compStart e d itv acc env) env >>= fun _ => last
def zi2 (te : TE) : TM:=fun ys σ H Q => te σ H fun y H4 => ys.length < sizeLine ∧ Q (ys ++ [y]) H4
def cIn (g : TG) (ts : TT) (tm : TM) (σ : St) (J : It) (Q : List V → Hp → Prop) (ys : List V) (H1 : Hp) : Prop :=
 ∃ W : Nat → Nat → List V → Hp → Prop,(∃ m,W 0 m ys H1) ∧ ∀ i m ys H,W i m ys H →
  (J.stop i H ∧ Q ys H) ∨
  (J.go i H ∧ ∃ N : List V → Hp → Prop,(∀ ys' H',N ys' H' → ∃ m',m' < m ∧ W (i + 1) m' ys' H') ∧ ∀ x H',J.yld i H x H' → g x σ H' fun σ2 H2 => ts σ2 H2 fun b H3 =>
   if b = true then tm ys σ2 H3 N else N ys H3)
def zi3 (wi : TI) (g : TG) (ts : TT) (tm : TM) : TM:=fun ys σ H Q => wi σ H fun J H1 => cIn g ts tm σ J Q ys H1
def zi4 (ix : List (Option Nat)) (wi : TI) (g : TG) (ts : TT) (tm : TM) : TE:=fun σ H Q => wi σ H fun J H1 => cIn g ts tm (zar ix σ) J (fun ys H' => ∀ D,H' D = none → Q (.ref D) (upd H' D (.lst ys))) [] H1
theorem thx {α : Type} {X : Cx} {m : Sem α} {P Q : α → Shared → Prop} {E : Value → Shared → Prop} {s : Shared} (hx : X.xe = fun _ _ => False) (h : wpAny (model X.prog X.w) X.A m P X.xe s) (k : ∀ a s',P a s' → Q a s') : wpAny (model X.prog X.w) X.A m Q E s :=
 wpAny_mono h k fun _ _ z => by rw [hx] at z; exact z.elim
theorem zlg {Y : Cx} {D : Addr} {elt : Expr} {te : TE} (hx : Y.xe = fun _ _ => False) (he : PE Y elt te) : PM Y D [] (zi1 elt (.ref D) Y.env) (zi2 te):=by
 intro last pins s σ H ys its nn Q Φ I a no h k
 unfold zi1
 refine wpAny_bind (wpAny_bind (thx hx (he (pins ++ [(D,zc0 its nn)]) s σ H _ (a.pin I) h) fun yv s1 ⟨y,H1,I1,r1,hz,q1⟩ => wpAny_bind ?_))
 have a1:=a.back I1 (List.mem_append_right _ List.mem_cons_self)
 have J1 : Inv Y pins σ H1 s1:=I1.fewer fun p hp => List.mem_append_left _ hp
 have hvl:=a1.vals.length
 refine call_meets F.slot_list_append ⟨_,a1.here,rfl⟩ F.entry_list_append (F.args_list_append_2 _ _) (PySem.list_append D its.toArray nn yv (by rw [List.size_toArray]; omega)) ⟨a1.here,?_⟩
 refine wpAny_pure ?_
 have q:=PySem.IsL.update a1.here (·.push yv)
 have k10 : ∀ b o,b ≠ D → s1.heap.get? b = some o → (s1.heap.update D (Obj.mapSeq (·.push yv))).get? b = some o:=fun b o hb e => (Heap.get?_update_other s1.heap (Obj.mapSeq (·.push yv)) (Ne.symm hb)).trans e
 obtain ⟨b0,b1,b2,b3,b4,b5⟩:=a1.fp
 have I11 : Inv Y pins σ H1 { s1 with heap:=s1.heap.update D (Obj.mapSeq (·.push yv)) }:=J1.turned (t':=s1.toks) k10 b0 b1 b3 b4 b5
 have e1 : its.toArray.push yv = (its ++ [yv]).toArray:=by simp
 rw [e1] at q
 refine k _ (ys ++ [y]) (its ++ [yv]) _ H1 I11 ⟨a1.fp,q,a1.vals.append (.cons r1 .nil),?_⟩ q1
 rw [List.length_append,List.length_singleton]
 omega
section
variable {Y : Cx} {D : Addr} {js js' : List Nat} {elt : Expr} {gens : List Comprehension} {scope : Scope} {pos : Pos} {d : Nat} {tg : Expr} {ifs : List Expr} {p : Pos} {mk : Sem Fin → Sem Fin} {g : TG} {ts : TT} {tm : TM}
def zcn (tg : Expr) (ifs : List Expr) (p : Pos) (mk : Sem Fin → Sem Fin) (c : Code) (it : Value) (env : Env) : Sem Fin :=
 standAt p >>= fun _ => pyNext it >>= fun r => match r with
  | none => pure (.done .next)
  | some v => letOwnedTupleGo tg it v >>= fun _ => assign tg env v >>= fun _ => zeI ifs env >>= fun ok => if ok = true then mk (again c) else again c
theorem zgZ (hc : Y.calm = true) (hx : Y.xe = fun _ _ => False) (hgs : GS js g) (hdis : ∀ j ∈ js,j ∉ js') (hg : PG Y tg g) (ht : zcZ Y ifs ts) (hm : PM Y D js' mk tm)
  (hturn : ∀ it,compTurn (.ListComp elt gens scope pos) d it (.ref D) Y.env = zcn tg ifs p mk (.compLoop (.ListComp elt gens scope pos) d it (.ref D) Y.env) it Y.env)
  {pins : List (Addr × Obj)} {σ : St} {H2 : Hp} {s2 : Shared} {it : Addr} {fp : List Addr} {tn : Nat → Heap → Prop} {J : It} {Q : List V → Hp → Prop} {R : Result → Shared → Prop} {ys : List V} {its : List Value} {nn : Nat}
  (I2 : Inv Y pins σ H2 s2) (a2 : AccAt Y pins H2 s2 D ys its nn) (no : zeW (js ++ js') σ) (T : Turn Y.prog Y.w Y.K tg J fp it tn) (st2 : tn 0 s2.heap) (f2 : ∀ b ∈ fp,zbg Y pins H2 b) (fD : ∀ b ∈ fp,b ≠ D) (q : cIn g ts tm σ J Q ys H2)
  (hR : ∀ (s' : Shared) (ys' : List V) (its' : List Value) (nn' : Nat) (H' : Hp),Inv Y pins σ H' s' → AccAt Y pins H' s' D ys' its' nn' → Q ys' H' → R (.ok .next) s') :
  codeAny (model Y.prog Y.w) Y.A (.compLoop (.ListComp elt gens scope pos) d (.ref it) (.ref D) Y.env) R s2:=by
 obtain ⟨W,⟨m0,w0⟩,turn⟩:=q
 have fpY : ∀ {H' : Hp} {its : List Value} {nn : Nat},(∀ b ∈ fp,H' b = none) → ∀ b ∈ fp,zbg Y (pins ++ [(D,zc0 its nn)]) H' b:=fun {H' its nn} hn b hb => by
  obtain ⟨_,a1,a2,a3,a4,a5⟩:=f2 b hb
  refine ⟨hn b hb,a1,a2,a3,a4,fun p hp => ?_⟩
  rcases (List.mem_append.mp hp) with hp | hp
  ·exact a5 p (List.mem_append_left _ hp)
  ·rcases (List.mem_append.mp hp) with hp | hp
   ·exact a5 p (List.mem_append_right _ hp)
   ·obtain rfl : p = (D,zc0 its nn):=by simpa using hp
    exact (fD b hb).symm
 refine codeAny_loop rfl (fun n s' => ∃ i ys H' its nn,Inv Y pins σ H' s' ∧ tn i s'.heap ∧ (∀ b ∈ fp,H' b = none) ∧ AccAt Y pins H' s' D ys its nn ∧ W i n ys H') ?_ m0
  ⟨0,ys,H2,its,nn,I2,st2,fun b hb => (f2 b hb).1,a2,w0⟩
 rintro n s5 ⟨i,ys,H5,its,nn,I5,st5,fr5,a5,w5⟩
 show wpAny _ Y.A ((compTurn (.ListComp elt gens scope pos) d (.ref it) (.ref D) Y.env).onRaise (fun x => do noteFrame x Y.env; theTreesLotGoes x)) _ _ s5
 refine wpAny_noted ?_
 rw [hturn]
 unfold zcn
 have I5p:=a5.pin I5
 (refine wpAny_bind (wpAny_standAt (wpAny_bind ?_)))
 rcases turn i n ys H5 w5 with ⟨stop,qn⟩ | ⟨go,N,hN,step⟩
 ·refine wpAny_mono (T.done Y rfl rfl rfl hc i _ s5 _ H5 (fun _ _ => False) I5p (fpY fr5) st5 stop) (fun r s6 ⟨hr,I6⟩ => ?_) fun _ _ z => z.elim
  subst hr
  exact wpAny_pure (hR s6 ys its nn H5 (I6.fewer fun p hp => List.mem_append_left _ hp) (a5.back I6 (List.mem_append_right _ List.mem_cons_self)) qn)
 ·refine wpAny_mono (T.item Y rfl rfl rfl hc i _ s5 _ H5 (fun _ _ => False) I5p (fpY fr5) st5 go) (fun r s6 ⟨u,hr,h6⟩ => ?_) fun _ _ z => z.elim
  subst hr
  refine wpAny_bind (wpAny_mono h6 (fun _ s7 ⟨x,H7,I7,r7,y7,st7,fr7⟩ => ?_) fun _ _ z => z.elim)
  have I7':=I7.pinned (fpY fr7) (T.obj _ _ st7)
  refine wpAny_bind (thx hx (hg _ s7 _ H7 x u _ I7' r7 (hgs σ σ x H7 _ Kp.refl (step x H7 y7))) fun _ s8 ⟨σ8,H8,I8,kp,q8⟩ => ?_)
  refine wpAny_bind (thx hx (ht _ s8 σ8 H8 _ I8 q8) fun ok s9 ⟨H9,I9,q9⟩ => ?_)
  have mD : (D,zc0 its nn) ∈ (pins ++ [(D,zc0 its nn)]) ++ zbB fp s7.heap:=List.mem_append_left _ (List.mem_append_right _ List.mem_cons_self)
  have a9:=a5.back I9 mD
  have K9 : Inv Y (pins ++ zbB fp s7.heap) σ8 H9 s9:=I9.fewer fun p hp => (List.mem_append.mp hp).elim (fun z => List.mem_append_left _ (List.mem_append_left _ z)) fun z => List.mem_append_right _ z
  have wk : ∀ (j : Nat) v,σ[j]? = some (some v) → σ8[j]? = some (some v):=fun j v e => by
   have hj : j ∉ js:=fun z => no j (List.mem_append_left _ z) v e
   rw [kp.2 j hj]
   exact e
  have back : ∀ {H' : Hp} {s' : Shared},Inv Y (pins ++ zbB fp s7.heap) σ8 H' s' → Inv Y pins σ H' s' ∧ tn (i + 1) s'.heap ∧ ∀ b ∈ fp,H' b = none:=fun {H' s'} I' => by
   refine ⟨(I'.fewer fun p hp => List.mem_append_left _ hp).weak kp.1.symm wk,T.keep _ _ _ st7 fun b hb o e => (I'.pin (b,o) (List.mem_append_right _ (List.mem_append_right _ (zaR hb e)))).1,fun b hb => ?_⟩
   obtain ⟨o,e,d⟩:=T.obj _ _ st7 b hb
   exact (I'.pin (b,o) (List.mem_append_right _ (List.mem_append_right _ (zaR hb e)))).2.1
  cases ok with
  | false =>
   rw [if_neg Bool.false_ne_true] at q9 ⊢
   obtain ⟨m',hm',w9⟩:=hN _ _ q9
   obtain ⟨b1,b2,b3⟩:=back K9
   exact wpAny_pure ⟨rfl,m',hm',i + 1,ys,H9,its,nn,b1,b2,b3,a9,w9⟩
  | true =>
   rw [if_pos rfl] at q9 ⊢
   have a9' : AccAt Y (pins ++ zbB fp s7.heap) H9 s9 D ys its nn:=by
    obtain ⟨b0,b1,b2,b3,b4,b5⟩:=a9.fp
    refine ⟨⟨b0,b1,b2,b3,b4,fun p hp => ?_⟩,a9.here,a9.vals,a9.len⟩
    rcases (List.mem_append.mp hp) with hp | hp
    ·exact b5 p (List.mem_append_left _ hp)
    ·rcases (List.mem_append.mp hp) with hp | hp
     ·exact b5 p (List.mem_append_right _ hp)
     ·exact fD _ (zd6 hp).1
   have no' : zeW js' σ8:=fun j hj v e => by
    have hj' : j ∉ js:=fun z => hdis j z hj
    rw [kp.2 j hj'] at e
    exact no j (List.mem_append_right _ hj) v e
   refine wpAny_mono (hm (again _) _ s9 σ8 H9 ys its nn N (fun fin s' => match fin with | .done f => R (.ok f) s' | .again c' => c' = _ ∧ ∃ m,m < n ∧ _) K9 a9' no' q9 fun s' ys' its' nn' H' I' a' n' => ?_) (fun _ _ z => z) fun _ _ z => z.elim
   obtain ⟨m',hm',w'⟩:=hN _ _ n'
   obtain ⟨b1,b2,b3⟩:=back I'
   obtain ⟨c0,c1,c2,c3,c4,c5⟩:=a'.fp
   refine wpAny_pure ⟨rfl,m',hm',i + 1,ys',H',its',nn',b1,b2,b3,⟨⟨c0,c1,c2,c3,c4,fun p hp => ?_⟩,a'.here,a'.vals,a'.len⟩,w'⟩
   rcases (List.mem_append.mp hp) with hp | hp
   ·exact c5 p (List.mem_append_left _ hp)
   ·exact c5 p (List.mem_append_right _ (List.mem_append_left _ hp))
theorem zfJ {prog : Program} {w : World} {A : Around} {R : Result → Shared → Prop} {s : Shared} {iter : Expr} {it acc : Value} {env : Env} (hd : gens[d]? = some ⟨tg,iter,ifs,0⟩)
  (h0 : codeAny (model prog w) A (.compLoop (.ListComp elt gens scope pos) d it acc env) R s)
  (h : wpAny (model prog w) A (pyIter it) (fun it' s' => codeAny (model prog w) A (.compLoop (.ListComp elt gens scope pos) d it' acc env) R s') (fun _ _ => False) s) :
  codeAny (model prog w) A (.compStart (.ListComp elt gens scope pos) d it acc env) R s:=by
 refine codeAny_of_tree ?_
 show wpAny _ _ ((compStart (.ListComp elt gens scope pos) d it acc env).onRaise (fun x => do noteFrame x env; standAt theWindowsPlace)) _ _ s
 refine wpAny_notedAt ?_
 unfold compStart
 have e1 : (clausesOf (.ListComp elt gens scope pos))[d]? = some ⟨tg,iter,ifs,0⟩:=hd
 rw [e1]
 (show wpAny _ _ (ask >>= _) _ _ s)
 (refine wpAny_bind (wpAny_askSetting (wpAny_ite ?_)))
 split
 ·first
   | (exact wpAny_bind (wpAny_pure (wpAny_pure ⟨rfl,h0⟩)))
   | (exact wpAny_pure ⟨rfl,h0⟩)
 ·first
   | exact wpAny_bind (wpAny_rule (wpAny_bind (wpAny_standAt (wpAny_bind (wpAny_mono h (fun it' s' h' => wpAny_pure (And.intro rfl h')) fun _ _ x => x.elim)))))
   | (refine wpAny_bind (wpAny_rule ?_); show wpAny _ _ (standAt iter.pos >>= _) _ _ s; exact wpAny_bind (wpAny_standAt (wpAny_bind (wpAny_mono h (fun it' s' h' => wpAny_pure (And.intro rfl h')) fun _ _ x => x.elim))))
theorem zlh {iter : Expr} {wi : TI} (hc : Y.calm = true) (hx : Y.xe = fun _ _ => False) (hgs : GS js g) (hdis : ∀ j ∈ js,j ∉ js') (hi : PI Y tg iter wi) (hg : PG Y tg g) (ht : zcZ Y ifs ts) (hm : PM Y D js' mk tm) (hd : gens[d]? = some ⟨tg,iter,ifs,0⟩)
  (hturn : ∀ it,compTurn (.ListComp elt gens scope pos) d it (.ref D) Y.env = zcn tg ifs p mk (.compLoop (.ListComp elt gens scope pos) d it (.ref D) Y.env) it Y.env)
  (hs : ∀ x,foldedSetIterable iter Y.env x = pure x:=by intro _; rfl) :
  PM Y D (js ++ js') (zgY (.ListComp elt gens scope pos) iter d (.ref D) Y.env) (zi3 wi g ts tm):=by
 intro last pins s σ H ys its nn Q Φ I a no h k
 unfold zgY
 refine wpAny_bind (thx hx (hi (pins ++ [(D,zc0 its nn)]) s σ H _ (a.pin I) h) fun v s1 h1 => wpAny_bind (wpAny_standAt (wpAny_bind ?_)))
 rw [hs v]
 refine wpAny_pure (wpAny_bind (wpAny_holding (thx hx h1 fun itv s2 h2 => ?_)))
 obtain ⟨it,fp,tn,J,H2,e,I2,T,st2,f2,q⟩:=h2
 subst e
 have a2:=a.back I2 (List.mem_append_right _ List.mem_cons_self)
 have J2 : Inv Y pins σ H2 s2:=I2.fewer fun p hp => List.mem_append_left _ hp
 have f2' : ∀ b ∈ fp,zbg Y pins H2 b:=fun b hb => by
  obtain ⟨c0,c1,c2,c3,c4,c5⟩:=f2 b hb
  refine ⟨c0,c1,c2,c3,c4,fun p hp => ?_⟩
  rcases (List.mem_append.mp hp) with hp | hp
  ·exact c5 p (List.mem_append_left _ hp)
  ·exact c5 p (List.mem_append_right _ (List.mem_append_left _ hp))
 have fD : ∀ b ∈ fp,b ≠ D:=fun b hb => ((f2 b hb).2.2.2.2.2 (D,zc0 its nn) (List.mem_append_right _ (List.mem_append_right _ List.mem_cons_self))).symm
 have loop : codeAny (model Y.prog Y.w) Y.A (.compLoop (.ListComp elt gens scope pos) d (.ref it) (.ref D) Y.env) (fun r s' => match r with | .ok f => wpAny (model Y.prog Y.w) Y.A last Φ (fun _ _ => False) s' | .error e => cameBackBy (model Y.prog Y.w) Y.A Y.env (fun _ _ => False) e s') s2 :=
  zgZ hc hx hgs hdis hg ht hm hturn J2 a2 no T st2 f2' fD q fun s' ys' its' nn' H' I' a' q' => k s' ys' its' nn' H' I' a' q'
 exact wpAny_bind (wpAny_runOwn (zfJ hd loop (T.self _ 0 _ _ _ st2 loop)))
end
section
variable {X : Cx} {elt tg iter : Expr} {ifs : List Expr} {gs : List Comprehension} {scope : Scope} {pos : Pos} {N' : List Str} {ix : List (Option Nat)} {js js' : List Nat} {g : TG} {ts : TT} {tm : TM} {mk : Addr → Env → Sem Fin → Sem Fin}
theorem zfK {pins : List (Addr × Obj)} {σ : St} {H2 : Hp} {s2 : Shared} {it : Addr} {fp : List Addr} {tn : Nat → Heap → Prop} {J : It} {Q : VK} {E : Value → Shared → Prop} {RR : Value → Addr → Result → Shared → Prop}
  (SC : CompSc X N' ix scope) (hc : X.calm = true) (hgs : GS js g) (hdis : ∀ j ∈ js,j ∉ js') (hjs : ∀ j ∈ js ++ js',ix[j]? = some none)
  (hg : ∀ s₃ H₃ ex pins,PG (zF X N' scope s₃ H₃ ex pins) tg g) (ht : ∀ s₃ H₃ ex pins,zcZ (zF X N' scope s₃ H₃ ex pins) ifs ts) (hm : ∀ s₃ H₃ ex pins D,PM (zF X N' scope s₃ H₃ ex pins) D js' (mk D (zF X N' scope s₃ H₃ ex pins).env) tm)
  (hturn : ∀ it D env,compTurn (.ListComp elt (⟨tg,iter,ifs,0⟩ :: gs) scope pos) 0 it (.ref D) env = zcn tg ifs iter.pos (mk D env) (.compLoop (.ListComp elt (⟨tg,iter,ifs,0⟩ :: gs) scope pos) 0 it (.ref D) env) it env)
  (I2 : Inv X pins σ H2 s2) (T : Turn X.prog X.w X.K tg J fp it tn) (st2 : tn 0 s2.heap) (f2 : ∀ b ∈ fp,zbg X pins H2 b) (q : cIn g ts tm (zar ix σ) J (fun ys H' => ∀ D,H' D = none → Q (.ref D) (upd H' D (.lst ys))) [] H2)
  (hRR : ∀ (D C : Addr) (s' : Shared) (ys : List V) (H' : Hp) (m : Str → Option Value),Inv X pins σ (upd H' D (.lst ys)) s' → zbg X pins (upd H' D (.lst ys)) C → s'.heap.Ns C m → Q (.ref D) (upd H' D (.lst ys)) → RR (.ref D) C (.ok .next) s') :
  wpAny (model X.prog X.w) X.A (newList []) (fun acc s₃ => wpAny (model X.prog X.w) X.A (newFunctionEnv scope X.env.globals (zau X.env.cells scope.names []) [] X.env.qual none .none (some X.env)) (fun cenv s₄ =>
   codeAny (model X.prog X.w) X.A (.compStart (.ListComp elt (⟨tg,iter,ifs,0⟩ :: gs) scope pos) 0 (.ref it) acc { cenv with scope:=relabel scope X.env }) (RR acc cenv.locals) s₄) E s₃) E s2:=by
 have hfr : ∀ y ∈ scope.names,y.2 = .free → ∃ c,X.env.cells.lookup y.1 = some c:=fun y hy hf => I2.ok.has y.1 (SC.free y hy hf)
 have hcl : ∀ x c,(zau X.env.cells scope.names []).lookup x = some c → X.env.cells.lookup x = some c:=za0 scope.names [] hfr (fun x c e => by simp at e)
 refine wpAny_newObj_type (wpAny_newFunctionEnv SC.nocell (by intro y hy; simp at hy) (fun h₁ hns₁ hsb₁ => ?_) SC.kind)
 dsimp only at hns₁ hsb₁ ⊢
 have I3 : Inv X pins σ H2 { s2 with heap:=s2.heap.push { cls:=.type "list",dict:=none,data:=.seq ([] : List Value).toArray } }:=I2.kept (t':=s2.toks) fun b o e => Heap.get?_push_of_some _ e
 have hD3 : (s2.heap.push { cls:=.type "list",dict:=none,data:=.seq ([] : List Value).toArray }).get? s2.heap.objs.size = some { cls:=.type "list",dict:=none,data:=.seq ([] : List Value).toArray }:=Heap.get?_push_size _ rfl
 have hst3 : tn 0 (s2.heap.push { cls:=.type "list",dict:=none,data:=.seq ([] : List Value).toArray }):=T.keep _ _ _ st2 fun b hb o e => Heap.get?_push_of_some _ e
 have hsz3 : (s2.heap.push { cls:=.type "list",dict:=none,data:=.seq ([] : List Value).toArray }).objs.size = s2.heap.objs.size + 1:=Heap.size_push _ _
 generalize hh3 : s2.heap.push { cls:=.type "list",dict:=none,data:=.seq ([] : List Value).toArray } = h3 at *
 have hfpO:=T.obj _ _ st2
 have hfpLt : ∀ b ∈ fp,b < s2.heap.objs.size:=fun b hb => by obtain ⟨o,e,_⟩:=hfpO b hb; exact Heap.lt_size e
 have stk : ∀ b ∈ frs X.stack,b = X.env.locals ∨ b ∈ X.fs:=fun b hb => List.mem_cons.mp (I2.stkSub b hb)
 have hDok : zbg X pins H2 s2.heap.objs.size:=I2.fpOk (Nat.le_refl _) I2.fresh
 have exOk : ∀ b ∈ s2.heap.objs.size :: fp,zbg X pins H2 b:=fun b hb => by
  rcases (List.mem_cons.mp hb) with e | hb
  ·rw [e]; exact hDok
  ·exact f2 b hb
 have exLt : ∀ b ∈ s2.heap.objs.size :: fp,b < h3.objs.size:=fun b hb => by
  rw [hsz3]
  rcases (List.mem_cons.mp hb) with e | hb; · rw [e]; exact Nat.lt_succ_self _
  ·exact Nat.lt_succ_of_lt (hfpLt b hb)
 have exStk : ∀ b ∈ s2.heap.objs.size :: fp,b ∉ frs X.stack:=fun b hb z => by
  obtain ⟨_,a1,a2,_⟩:=exOk b hb
  rcases stk b z with e | e
  ·exact a1 e
  ·exact a2 e
 have old : ∀ b o,h3.get? b = some o → h₁.get? b = some o:=fun b o e => hsb₁.extBut b o (Nat.ne_of_lt (Heap.lt_size e)) (Heap.get?_push_of_some _ e)
 let s3 : Shared:={ s2 with heap:=h3 }
 let Y : Cx:=zF X N' scope s3 H2 (s2.heap.objs.size :: fp) pins
 have I3' : Inv X pins σ H2 s3:=I3
 have okY : Y.Ok:=by
  refine ⟨I2.ok.mod,SC.kind,I2.ok.glob,I2.ok.blt,Nat.le_refl _,fun x y c h1 h2 => I2.ok.inj x y c (hcl x c h1) (hcl y c h2),fun x hx => ?_,fun x c z => (by cases z),I2.ok.hd,I2.ok.frames,.inl rfl,fun b hb => ?_,fun b o e => I3'.bs b o e,?_,fun b o e hb => ?_,exStk,I3'.stack,I3'.stkFree⟩
  ·have hx':=zbD (env:=X.env) (names:=scope.names) (x:=x) hx
   rcases hx' with hx' | hx'
   ·exact zaU scope.names [] x (.inr (lookup_mem hx'))
   ·exact absurd rfl (SC.nocell _ (lookup_mem hx'))
  ·exact ⟨Nat.ne_of_lt (exLt b hb),fun x c e => (exOk b hb).2.2.2.2.1 x c (hcl x c e)⟩
  ·exact Nat.le_trans I2.ok.bsz I3'.sz
  ·obtain ⟨_,_,_,a3,_⟩:=exOk b hb
   rcases a3 with z | z
   ·exact I2.ok.noex b o e z
   ·have:=(I2.ok.bs b o e).1
    exact absurd (Nat.lt_of_lt_of_le (Heap.lt_size this) z) (Nat.lt_irrefl _)
 have inv4 : Inv Y [] (zar ix σ) H2 { s3 with heap:=h₁,toks:=s2.toks + ([] : List (Str × Value)).length }:=by
  refine ⟨okY,rfl,I2.bare,Un.kept old,⟨_,hns₁,fun j x v e1 e2 e3 => ?_⟩,fun x c e => ?_,I3'.fresh,fun x c e => I2.freeC x c (hcl x c e),fun p hp => ?_,I3'.hok.kept old,?_⟩
  ·unfold zar at e2
   rw [List.getElem?_map] at e2
   cases hj : ix[j]? with
   | none => rw [hj] at e2; simp at e2
   | some oi =>
    rw [hj] at e2
    cases oi with
    | none => simp at e2
    | some i =>
     obtain ⟨y,h1,h2,h3'⟩:=SC.cap j i hj
     have hxy : y = x:=by
      have e1' : N'[j]? = some x:=e1
      rw [h1] at e1'
      exact Option.some.inj e1'
     subst hxy
     have e2' : (σ[i]?).join = some v:=by simpa using e2
     have e2'' : σ[i]? = some (some v):=by
      cases hs : σ[i]? with
      | none => rw [hs] at e2'; simp at e2'
      | some w => rw [hs] at e2'; simp at e2'; rw [e2']
     obtain ⟨m,hn,hl⟩:=I3'.loc
     have hk:=SC.free (y,.free) (lookup_mem h3') rfl
     have hvis : Vis X.env.scope y:=hk.elim (fun z => .inr (.inl z)) fun z => .inr (.inr z)
     obtain ⟨u,r,l⟩:=hl i y v h2 e2'' hvis
     refine ⟨u,r,.inr ⟨zaA h3',?_⟩⟩
     obtain ⟨c,hcc⟩:=zaU (cs:=X.env.cells) scope.names [] y (.inr (lookup_mem h3'))
     refine ⟨c,hcc,?_⟩
     rcases l with ⟨hk',_⟩ | ⟨_,c',hc',hcell⟩
     ·rcases hk with hk | hk
      ·have hk2 : X.env.kindOf y = some .cell:=hk
       rw [hk2] at hk'; cases hk'
      ·have hk2 : X.env.kindOf y = some .free:=hk
       rw [hk2] at hk'; cases hk'
     ·have:=hcl y c hcc
      rw [hc'] at this
      cases this
      obtain ⟨o,ho,hd⟩:=hcell
      exact ⟨o,old _ _ ho,hd⟩
  ·obtain ⟨v,o,ho,hd⟩:=I3'.cell x c (hcl x c e)
   exact ⟨v,o,old _ _ ho,hd⟩
  ·have hp' : p ∈ X.pn ++ pins:=by
    have : p ∈ (X.pn ++ pins) ++ ([] : List (Addr × Obj)):=hp
    simpa using this
   obtain ⟨a1,a2,a3,a4,a5⟩:=I3'.pin p hp'
   exact ⟨old _ _ a1,a2,Nat.ne_of_lt (Heap.lt_size a1),fun z => (stk _ z).elim a3 a4,a5⟩
  ·unfold zar
   rw [List.length_map]
   exact SC.len.symm
 have fpY : ∀ {H' : Hp},(∀ b ∈ s2.heap.objs.size :: fp,H' b = none) → ∀ b ∈ s2.heap.objs.size :: fp,zbg Y [] H' b:=fun {H'} hn b hb => by
  obtain ⟨_,a1,a2,a3,a4,a5⟩:=exOk b hb
  refine ⟨hn b hb,Nat.ne_of_lt (exLt b hb),exStk b hb,.inl hb,fun x c e => a4 x c (hcl x c e),fun p hp => ?_⟩
  have : p ∈ (X.pn ++ pins) ++ ([] : List (Addr × Obj)):=hp
  exact a5 p (by simpa using this)
 have nn2 : ∀ b ∈ s2.heap.objs.size :: fp,H2 b = none:=fun b hb => (exOk b hb).1
 have noA : zeW (js ++ js') (zar ix σ):=fun j hj v e => by
  unfold zar at e
  rw [List.getElem?_map,hjs j hj] at e
  simp at e
 have loop : ∀ s₅ : Shared,s₅ = { s2 with heap:=h₁,toks:=s2.toks + ([] : List (Str × Value)).length } →
   codeAny (model X.prog X.w) X.A (.compLoop (.ListComp elt (⟨tg,iter,ifs,0⟩ :: gs) scope pos) 0 (.ref it) (.ref s2.heap.objs.size) (compEnvC scope (zau X.env.cells scope.names []) h3.objs.size X.env)) (RR (.ref s2.heap.objs.size) h3.objs.size) s₅:=by
  rintro s₅ rfl
  refine zgZ (Y:=Y) (pins:=[]) (σ:=zar ix σ) (its:=[]) (nn:=0) hc rfl hgs hdis (hg s3 H2 _ pins) (ht s3 H2 _ pins) (hm s3 H2 _ pins s2.heap.objs.size) (fun it => hturn it _ _) inv4 ⟨fpY nn2 _ List.mem_cons_self,old _ _ hD3,.nil,Nat.zero_le _⟩ noA T (T.keep _ _ _ hst3 fun b hb o e => old b o e)
   (fun b hb => fpY nn2 b (List.mem_cons_of_mem _ hb)) (fun b hb => Nat.ne_of_lt (hfpLt b hb)) q fun s6 ys its nn H5 I6 a6 qn => ?_
  have dn5 : H5 s2.heap.objs.size = none:=a6.fp.1
  have I7 : Inv X pins σ H5 s6:=by
   refine I3'.call' (s':=s6) (ch:=s2.heap.objs.size :: fp) I6.os I6.base I6.hok I6.bare fun b hb => ?_
   obtain ⟨_,a1,a2,a3,a4,a5⟩:=exOk b hb
   exact ⟨a3,a1,a4,a5⟩
  have I8 : Inv X pins σ (upd H5 s2.heap.objs.size (.lst ys)) s6:=by
   obtain ⟨_,a1,a2,a3,a4,a5⟩:=hDok
   exact I7.track dn5 I2.sz (Ne.symm a1) a4 a5 ⟨a6.len,its,nn,a6.vals,a6.here⟩
  obtain ⟨mm,hmm,_⟩:=I6.loc
  have dne : h3.objs.size ≠ s2.heap.objs.size:=by rw [hsz3]; exact Nat.succ_ne_self _
  refine hRR _ _ s6 ys H5 mm I8 (I3'.fpOk (H':=upd H5 s2.heap.objs.size (.lst ys)) (Nat.le_refl _) ?_) hmm (qn _ dn5)
  show upd H5 s2.heap.objs.size (.lst ys) h3.objs.size = none
  rw [zp dne]
  exact I6.free
 exact zfJ rfl (loop _ rfl) (T.self _ 0 _ _ _ (T.keep _ _ _ hst3 fun b hb o e => old b o e) (loop _ rfl))
theorem zfL {wi : TI} {i : Nat} {x : Str} {pos' spos : Pos} (hN : X.N.Nodup) (hxi : X.N[i]? = some x) (hx : Loc X.env.scope x) (SC : CompSc X N' ix scope) (hc : X.calm = true) (hgs : GS js g) (hdis : ∀ j ∈ js,j ∉ js') (hjs : ∀ j ∈ js ++ js',ix[j]? = some none) (hi : PI X tg iter wi)
  (hg : ∀ s₃ H₃ ex pins,PG (zF X N' scope s₃ H₃ ex pins) tg g) (ht : ∀ s₃ H₃ ex pins,zcZ (zF X N' scope s₃ H₃ ex pins) ifs ts) (hm : ∀ s₃ H₃ ex pins D,PM (zF X N' scope s₃ H₃ ex pins) D js' (mk D (zF X N' scope s₃ H₃ ex pins).env) tm)
  (hturn : ∀ it D env,compTurn (.ListComp elt (⟨tg,iter,ifs,0⟩ :: gs) scope pos) 0 it (.ref D) env = zcn tg ifs iter.pos (mk D env) (.compLoop (.ListComp elt (⟨tg,iter,ifs,0⟩ :: gs) scope pos) 0 it (.ref D) env) it env)
  (hsw : swapsWith (.ListComp elt (⟨tg,iter,ifs,0⟩ :: gs) scope pos) (some (.Name x pos')) spos.line X.env = pure true:=by rfl)
  (hs : ∀ x,foldedSetIterable iter X.env x = pure x:=by intro _; rfl) (hf : X.fn x = true ∨ X.env.scope.names.lookup x = some .local:=by first | exact .inl rfl | exact .inr rfl | assumption) :
  PS X (.Assign [.Name x pos'] (.ListComp elt (⟨tg,iter,ifs,0⟩ :: gs) scope pos) spos) (zdU (zi4 ix wi g ts tm) (zaz i)):=by
 intro pins s σ H D I h
 have hfr : ∀ y ∈ scope.names,y.2 = .free → ∃ c,X.env.cells.lookup y.1 = some c:=fun y hy hf => I.ok.has y.1 (SC.free y hy hf)
 rw [exec_Assign_Name_used _ _ _ _ hsw]; refine wpAny_bind (wpAny_standAt (wpAny_bind ?_))
 show wpAny _ X.A (do let _ ← comprehension (.ListComp elt (⟨tg,iter,ifs,0⟩ :: gs) scope pos) scope X.env _ (newList []) false (eval iter X.env) (some (assign (.Name x pos') X.env))) _ _ s
 refine wpAny_bind (wpAny_mono (wpAny_comprehension_free (use:=some (assign (.Name x pos') X.env)) (Q:=fun _ s' => SP X pins D .next s') rfl hs (zbn hfr) SC.kind SC.names
  (thn (hi pins s σ H _ I h) fun v s1 h1 => thn h1 fun itv s2 h2 => ?_)) (fun _ s' hq => wpAny_pure (wpAny_pure hq)) fun _ _ e => e)
 obtain ⟨it,fp,tn,J,H2,e,I2,T,st2,f2,q⟩:=h2
 subst e
 refine zfK (Q:=fun x H1 => zaz i x σ H1 D.nx) (RR:=fun acc C => compPost (model X.prog X.w) X.A X.xe (some (assign (.Name x pos') X.env)) (fun _ s' => SP X pins D .next s') acc C) SC hc hgs hdis hjs hg ht hm hturn I2 T st2 f2 q ?_
 intro Da C s' ys H' m I' fpC hm q'
 show wpAny _ X.A (assign (.Name x pos') X.env (.ref Da)) _ _ _
 refine wpAny_assign_Name (zcK I' hN hxi hx (show RelV (.ref Da) (.ref Da) from rfl) (fun s'' I'' ⟨a,hsb,ha⟩ => ?_) hf)
 obtain ⟨f0,f1,f2',f3,f4,f5⟩:=fpC
 have hCa : C ≠ a:=by
  rcases ha with e | e
  ·rw [e]; exact f1
  ·exact Ne.symm (f4 x a e)
 refine ⟨m,hm.sameBut hsb hCa,fun h₃ hs₃ => ⟨_,_,?_,q'⟩⟩
 exact I''.turned (t':=s''.toks) (fun b o hb e => hs₃.extBut b o hb e) f0 f1 f3 f4 f5
end
theorem zli {elt t1 i1 t2 i2 : Expr} {f1 f2 : List Expr} {scope : Scope} {pos : Pos} (it : Value) (D : Addr) (env : Env) : compTurn (.ListComp elt [⟨t1,i1,f1,0⟩,⟨t2,i2,f2,0⟩] scope pos) 0 it (.ref D) env =
  zcn t1 f1 i1.pos (zgY (.ListComp elt [⟨t1,i1,f1,0⟩,⟨t2,i2,f2,0⟩] scope pos) i2 1 (.ref D) env) (.compLoop (.ListComp elt [⟨t1,i1,f1,0⟩,⟨t2,i2,f2,0⟩] scope pos) 0 it (.ref D) env) it env:=by rfl
theorem zlj {elt t1 i1 t2 i2 : Expr} {f1 f2 : List Expr} {scope : Scope} {pos : Pos} (it : Value) (D : Addr) (env : Env) : compTurn (.ListComp elt [⟨t1,i1,f1,0⟩,⟨t2,i2,f2,0⟩] scope pos) 1 it (.ref D) env =
  zcn t2 f2 i2.pos (zi1 elt (.ref D) env) (.compLoop (.ListComp elt [⟨t1,i1,f1,0⟩,⟨t2,i2,f2,0⟩] scope pos) 1 it (.ref D) env) it env:=by rfl
end L2
end
section
set_option maxHeartbeats 3995000
namespace Srt
open PySem PyProof.Rows
def Vk (val : Keyed → Int) (xs : Array Keyed) (i : Nat) : Int:=match xs[i]? with
 | some p => val p
 | none => 0
theorem zS {val : Keyed → Int} {xs ys : Array Keyed} {i j : Nat} (h : xs[i]? = ys[j]?) : Vk val xs i = Vk val ys j:=by unfold Vk; rw [h]
theorem zJ {val : Keyed → Int} {xs : Array Keyed} {i : Nat} {p : Keyed} (h : xs[i]? = some p) : Vk val xs i = val p:=by unfold Vk; rw [h]
def SIn (val : Keyed → Int) (xs : Array Keyed) (lo hi : Nat) : Prop:=∀ i j,lo ≤ i → i ≤ j → j < hi → Vk val xs i ≤ Vk val xs j
def DIn (val : Keyed → Int) (xs : Array Keyed) (lo hi : Nat) : Prop:=∀ i j,lo ≤ i → i ≤ j → j < hi → Vk val xs j ≤ Vk val xs i
structure SB (κ : SortKind) (a₀ : Array Keyed) (st : SortSt) : Prop where
 perm : (arrOf st).Perm a₀
 kind : kindOf st = κ
 failed : failedOf st = none
theorem SB.size {κ : SortKind} {a₀ : Array Keyed} {st : SortSt} (h : SB κ a₀ st) : (arrOf st).size = a₀.size:=h.perm.size_eq
theorem SB.mem {κ : SortKind} {a₀ : Array Keyed} {st : SortSt} (h : SB κ a₀ st) {i : Nat} (hi : i < a₀.size) : ∃ p,(arrOf st)[i]? = some p ∧ p ∈ a₀.toList:=by
 (have hi' : i < (arrOf st).size:=by rw [h.size]; exact hi)
 exact ⟨(arrOf st)[i],getElem?_pos _ i hi',(Array.perm_iff_toList_perm.mp h.perm).mem_iff.mp (by simp)⟩
structure SF (κ : SortKind) (a₀ : Array Keyed) (lo : Nat) (st₀ st : SortSt) : Prop where
 b : SB κ a₀ st
 low : ∀ k,k < lo → (arrOf st)[k]? = (arrOf st₀)[k]?
 pend : pendingOf st = pendingOf st₀
theorem SF.refl {κ : SortKind} {a₀ : Array Keyed} {lo : Nat} {st : SortSt} (h : SB κ a₀ st) : SF κ a₀ lo st st:=⟨h,fun _ _ => rfl,rfl⟩
theorem SF.setArr {κ : SortKind} {a₀ : Array Keyed} {lo : Nat} {st₀ st : SortSt} (h : SF κ a₀ lo st₀ st) {xs : Array Keyed} (hp : xs.Perm (arrOf st)) (hl : ∀ k,k < lo → xs[k]? = (arrOf st)[k]?) : SF κ a₀ lo st₀ (setArr st xs) :=
 ⟨⟨hp.trans h.b.perm,h.b.kind,h.b.failed⟩,fun k hk => (hl k hk).trans (h.low k hk),h.pend⟩
section
variable {prog : Program} {w : World} {A : Around} {E : Value → Shared → Prop} {s : Shared} {a₀ : Array Keyed} {κ : SortKind} {val : Keyed → Int}
def Cmp (prog : Program) (w : World) (A : Around) (s : Shared) (κ : SortKind) (val : Keyed → Int) (a₀ : Array Keyed) : Prop :=
 ∀ x y,x ∈ a₀.toList → y ∈ a₀.toList → ∀ (Q : Bool → Shared → Prop) (E : Value → Shared → Prop),Q (decide (val x < val y)) s → wpAny (model prog w) A (keyLt' κ x.1 y.1) Q E s
theorem zi5 {st : SortSt} {x y : Keyed} {Q : Option Bool → SortSt → Prop} (hC : Cmp prog w A s κ val a₀) (hk : kindOf st = κ) (hx : x ∈ a₀.toList) (hy : y ∈ a₀.toList) (h : Q (some (decide (val x < val y))) st) :
  wpS (model prog w) A E s (lt' x y) Q st:=by
 rw [lt'_eq]
 refine wpS_bind (wpS_get ?_)
 rw [hk]
 refine wpS_bind (wpS_lift (wpAny_attempt (hC x y hx hy _ _ ⟨rfl,?_⟩)))
 exact wpS_pure h
theorem zH {st : SortSt} {arr : Array Keyed} {i : Nat} {p : Keyed} {Q : Keyed → SortSt → Prop} (hi : arr[i]? = some p) (h : Q p st) : wpS (model prog w) A E s (elem' arr i) Q st:=by
 rw [elem'_eq,hi]
 exact wpS_pure h
theorem zdG {st : SortSt} {i j : Nat} {Q : Option Bool → SortSt → Prop} (hC : Cmp prog w A s κ val a₀) (hB : SB κ a₀ st) (hi : i < a₀.size) (hj : j < a₀.size) (h : Q (some (decide (Vk val (arrOf st) i < Vk val (arrOf st) j))) st) :
  (wpS (model prog w) A E s (ltAt' i j) Q st):=by
 obtain ⟨x,ex,mx⟩:=hB.mem hi
 obtain ⟨y,ey,my⟩:=hB.mem hj
 rw [ltAt'_eq]
 refine wpS_bind (wpS_get ?_)
 (show wpS _ _ _ _ (do let x ← elem' (arrOf st) i; let y ← elem' (arrOf st) j; lt' x y) Q st)
 refine wpS_bind (zH ex (wpS_bind (zH ey (zi5 hC hB.kind mx my ?_))))
 rw [zJ ex,zJ ey] at h
 exact h
theorem zg0 {st : SortSt} {i j : Nat} {Q : Unit → SortSt → Prop} (h : Q () (setArr st (mirror (arrOf st) i j ((j - i) / 2)))) :
  (wpS (model prog w) A E s (reverseSlice' i j) Q st):=by
 ((rw [reverseSlice'_eq]; exact wpS_modify h))
theorem zdH {xs : Array Keyed} {i j : Nat} (hj : j ≤ xs.size) (k : Nat) : Vk val (mirror xs i j ((j - i) / 2)) k = if i ≤ k ∧ k < j then Vk val xs (i + j - 1 - k) else Vk val xs k:=by
 (have e:=getElem?_mirror_all (i:=i) hj k)
 by_cases h1 : i ≤ k ∧ k < j
 ·rw [if_pos h1] at e ⊢; exact zS e
 ·rw [if_neg h1] at e ⊢; exact zS e
theorem za2 {xs : Array Keyed} {i j : Nat} (hj : j ≤ xs.size) (heq : ∀ k,i ≤ k → k < j → Vk val xs k = Vk val xs (j - 1)) (k : Nat) : Vk val (mirror xs i j ((j - i) / 2)) k = Vk val xs k:=by
 rw [zdH hj]
 split
 ·(rw [heq _ (by omega) (by omega),heq k (by omega) (by omega)])
 ·rfl
theorem zbG {xs : Array Keyed} {lo i j : Nat} (hj : j ≤ xs.size) (hi : lo ≤ i) : ∀ k,k < lo → (mirror xs i j ((j - i) / 2))[k]? = xs[k]?:=fun k hk => by
 rw [getElem?_mirror_all hj,if_neg (by omega)]
theorem zgu {xs : Array Keyed} {lo src d : Nat} (hs : src < xs.size) (hd : d ≤ src) (hl : lo ≤ src - d) : ∀ k,k < lo → (bubble xs src d)[k]? = xs[k]?:=fun k hk => by
 rw [getElem?_bubble hs d hd,if_neg (by omega),if_neg (by omega)]
def zi6 (lo a nrem : Nat) : StateT SortSt Sem AscSt :=
 forIn [a:nrem] ((none,a) : AscSt) fun _ st => do
  let x ← ltAt' (lo + st.snd) (lo + st.snd - 1)
  match x with
  | some smaller => if smaller = true then pure (ForInStep.done (none,st.snd)) else pure (ForInStep.yield (none,st.snd + 1))
  | _ => pure (ForInStep.done (some none,st.snd))
def zfM (lo n nrem : Nat) : StateT SortSt Sem (Option Nat):=do
 reverseSlice' lo (lo + n)
 let st ← zi6 lo n nrem
 match st.fst with
 | some r => pure r
 | none => pure (some st.snd)
def zg1 (lo n nrem : Nat) : StateT SortSt Sem DescSt :=
 forIn [n:nrem] ((none,n,0) : DescSt) fun _ st => do
  let x ← ltAt' (lo + st.snd.fst) (lo + st.snd.fst - 1)
  match x with
  | some smaller =>
   if smaller = true then
    if st.snd.snd > 0 then do
     reverseSlice' (lo + st.snd.fst - (st.snd.snd + 1)) (lo + st.snd.fst)
     pure (ForInStep.yield (none,st.snd.fst + 1,0))
    else pure (ForInStep.yield (none,st.snd.fst + 1,0))
   else do
    let x ← ltAt' (lo + st.snd.fst - 1) (lo + st.snd.fst)
    match x with
    | some larger =>
     if larger = true then pure (ForInStep.done (none,st.snd.fst,st.snd.snd))
     else pure (ForInStep.yield (none,st.snd.fst + 1,st.snd.snd + 1))
    | _ => pure (ForInStep.done (some none,st.snd.fst,st.snd.snd))
  | _ => pure (ForInStep.done (some none,st.snd.fst,st.snd.snd))
def zfN (lo n nrem : Nat) : StateT SortSt Sem (Option Nat):=do
 liftM (rule "list.sort.descending-run"); let st ← zg1 lo (n + 1) nrem
 match st.fst with
 | some r => pure r
 | none =>
  if st.snd.snd > 0 then do
   reverseSlice' (lo + st.snd.fst - (st.snd.snd + 1)) (lo + st.snd.fst)
   zfM lo st.snd.fst nrem
  else zfM lo st.snd.fst nrem
theorem zeX (lo nrem : Nat) : countRun' lo nrem = (do
  let st ← zi6 lo 1 nrem
  match st.fst with
  | some r => pure r
  | none =>
   if (st.snd == nrem) = true then pure (some st.snd)
   else if st.snd > 1 then do
    let x ← ltAt' lo (lo + st.snd - 1)
    match x with
    | some rose => if rose = true then pure (some st.snd) else do
      reverseSlice' lo (lo + st.snd)
      zfN lo st.snd nrem
    | _ => pure none
   else zfN lo st.snd nrem):=by
 rw [countRun'_eq]
 unfold zfN zfM zg1 zi6
 dsimp only
 refine congrArg (bind _) ?_
 funext c
 obtain ⟨r,n⟩:=c
 cases r with
 | some r => rfl
 | none =>
  dsimp only
  split
  ·rfl
  ·split
   ·congr 1
    funext x
    cases x with
    | none => rfl
    | some rose =>
     dsimp only
     split
     ·rfl
     ·congr 1
      funext _r
      congr 1; funext _u; congr 1; congr 1; funext s2; obtain ⟨r2,n2,q2⟩:=s2
      cases r2 with
      | some r2 => rfl
      | none =>
       dsimp only
       split
       ·congr 1; funext _v; congr 1; funext _w; congr 1; funext s3; obtain ⟨r3,n3⟩:=s3; cases r3 <;> rfl
       ·congr 1; funext _w; congr 1; funext s3; obtain ⟨r3,n3⟩:=s3; cases r3 <;> rfl
   ·congr 1; funext _u; congr 1; congr 1; funext s2; obtain ⟨r2,n2,q2⟩:=s2
    cases r2 with
    | some r2 => rfl
    | none =>
     dsimp only
     split
     ·congr 1; funext _v; congr 1; funext _w; congr 1; funext s3; obtain ⟨r3,n3⟩:=s3; cases r3 <;> rfl
     ·congr 1; funext _w; congr 1; funext s3; obtain ⟨r3,n3⟩:=s3; cases r3 <;> rfl
theorem zkz {st₀ st : SortSt} {lo a nrem : Nat} {Q : AscSt → SortSt → Prop} (hC : Cmp prog w A s κ val a₀) (hn : lo + nrem ≤ a₀.size) (ha : 1 ≤ a) (han : a ≤ nrem) (hB : SF κ a₀ lo st₀ st)
  (hs : SIn val (arrOf st) lo (lo + a))
  (h : ∀ n,a ≤ n → n ≤ nrem → SIn val (arrOf st) lo (lo + n) → (n = nrem ∨ Vk val (arrOf st) (lo + n) < Vk val (arrOf st) (lo + n - 1)) → Q (none,n) st) :
  wpS (model prog w) A E s (zi6 lo a nrem) Q st:=by
 unfold zi6
 refine wpS_forRange (I:=fun x c st' => st' = st ∧ c = (none,x) ∧ SIn val (arrOf st) lo (lo + x)) ?step ?fin ⟨rfl,rfl,hs⟩
 case fin =>
  rintro c st' ⟨rfl,rfl,hs'⟩
  (rw [show max a nrem = nrem by omega] at hs' ⊢)
  (exact h nrem han (Nat.le_refl _) hs' (.inl rfl))
 case step =>
  (rintro x c st' hax hxn ⟨rfl,rfl,hs'⟩)
  dsimp only
  refine wpS_bind (zdG hC hB.b (by omega) (by omega) ?_)
  by_cases hless : Vk val (arrOf st') (lo + x) < Vk val (arrOf st') (lo + x - 1)
  ·(simp only [hless,decide_true,if_true])
   (exact wpS_pure (h x hax (by omega) hs' (.inr hless)))
  ·(simp only [hless,decide_false,Bool.false_eq_true,if_false])
   refine wpS_pure ⟨rfl,rfl,fun i j hli hij hj => ?_⟩
   by_cases hjx : j < lo + x
   ·exact hs' i j hli hij hjx
   ·have hj' : j = lo + x:=by omega
    subst hj'
    by_cases hi' : i = lo + x
    ·(subst hi'; exact Int.le_refl _)
    ·exact Int.le_trans (hs' i (lo + x - 1) hli (by omega) (by omega)) (Int.not_lt.mp hless)
theorem zi7 {st₀ st : SortSt} {lo n nrem : Nat} {Q : Option Nat → SortSt → Prop} (hC : Cmp prog w A s κ val a₀) (hn : lo + nrem ≤ a₀.size) (h1 : 1 ≤ n) (hnn : n ≤ nrem) (hB : SF κ a₀ lo st₀ st)
  (hs : DIn val (arrOf st) lo (lo + n)) (h : ∀ m st',SF κ a₀ lo st₀ st' → 1 ≤ m → m ≤ nrem → SIn val (arrOf st') lo (lo + m) → Q (some m) st') :
  wpS (model prog w) A E s (zfM lo n nrem) Q st:=by
 unfold zfM
 have hsz : lo + n ≤ (arrOf st).size:=by rw [hB.b.size]; omega
 refine wpS_bind (zg0 ?_)
 have hB':=hB.setArr (mirror_perm (arrOf st) lo (lo + n) ((lo + n - lo) / 2)) (zbG hsz (Nat.le_refl _))
 refine wpS_bind (zkz hC hn h1 hnn hB' ?_ fun m hm1 hm2 hsm _ => wpS_pure (h m _ hB' (by omega) hm2 hsm))
 intro i j hli hij hj
 show Vk val (mirror (arrOf st) lo (lo + n) ((lo + n - lo) / 2)) i ≤ Vk val (mirror (arrOf st) lo (lo + n) ((lo + n - lo) / 2)) j
 rw [zdH hsz,zdH hsz,if_pos (by omega),if_pos (by omega)]
 exact hs _ _ (by omega) (by omega) (by omega)
theorem zlk {st₀ st : SortSt} {lo n nrem : Nat} {Q : DescSt → SortSt → Prop} (hC : Cmp prog w A s κ val a₀) (hn : lo + nrem ≤ a₀.size) (h1 : 1 ≤ n) (hnn : n ≤ nrem) (hB : SF κ a₀ lo st₀ st)
  (hs : DIn val (arrOf st) lo (lo + n))
  (h : ∀ m neq st',SF κ a₀ lo st₀ st' → n ≤ m → m ≤ nrem → DIn val (arrOf st') lo (lo + m) → neq + 1 ≤ m → (∀ i,lo + m - (neq + 1) ≤ i → i < lo + m → Vk val (arrOf st') i = Vk val (arrOf st') (lo + m - 1)) → Q (none,m,neq) st') :
  wpS (model prog w) A E s (zg1 lo n nrem) Q st:=by
 unfold zg1
 refine wpS_forRange (I:=fun x c st' => ∃ neq,c = (none,x,neq) ∧ SF κ a₀ lo st₀ st' ∧ DIn val (arrOf st') lo (lo + x) ∧ neq + 1 ≤ x ∧
   (∀ i,lo + x - (neq + 1) ≤ i → i < lo + x → Vk val (arrOf st') i = Vk val (arrOf st') (lo + x - 1))) ?step ?fin ⟨0,rfl,hB,hs,by omega,fun i h1 h2 => by congr 1; omega⟩
 case fin =>
  (rintro c st' ⟨neq,rfl,hB',hs',hq,he⟩)
  (rw [show max n nrem = nrem by omega] at hs' hq he ⊢)
  (exact h nrem neq st' hB' hnn (Nat.le_refl _) hs' hq he)
 case step =>
  (rintro x c st' hax hxn ⟨neq,rfl,hB',hs',hq,he⟩)
  dsimp only
  have hsz : lo + x ≤ (arrOf st').size:=by rw [hB'.b.size]; omega
  refine wpS_bind (zdG hC hB'.b (by omega) (by omega) ?_)
  by_cases hless : Vk val (arrOf st') (lo + x) < Vk val (arrOf st') (lo + x - 1)
  ·(simp only [hless,decide_true,if_true])
   have step1 : ∀ xs : Array Keyed,(∀ k,Vk val xs k = Vk val (arrOf st') k) → DIn val xs lo (lo + (x + 1)):=by
    intro xs hk i j hli hij hj
    rw [hk,hk]
    by_cases hjx : j < lo + x
    ·exact hs' i j hli hij hjx
    ·have hj' : j = lo + x:=by omega
     subst hj'
     by_cases hi' : i = lo + x
     ·(subst hi'; exact Int.le_refl _)
     ·exact Int.le_trans (Int.le_of_lt hless) (hs' i (lo + x - 1) hli (by omega) (by omega))
   by_cases hneq : neq > 0
   ·rw [if_pos hneq]
    refine wpS_bind (zg0 (wpS_pure ⟨0,rfl,hB'.setArr (mirror_perm _ _ _ _) (zbG hsz (by omega)),step1 _ (za2 hsz he),by omega,fun i h1 h2 => by congr 1; omega⟩))
   ·rw [if_neg hneq]
    (exact wpS_pure ⟨0,rfl,hB',step1 _ (fun _ => rfl),by omega,fun i h1 h2 => by congr 1; omega⟩)
  ·(simp only [hless,decide_false,Bool.false_eq_true,if_false])
   refine wpS_bind (zdG hC hB'.b (by omega) (by omega) ?_)
   by_cases hlarger : Vk val (arrOf st') (lo + x - 1) < Vk val (arrOf st') (lo + x)
   ·(simp only [hlarger,decide_true,if_true])
    (exact wpS_pure (h x neq st' hB' hax (by omega) hs' hq he))
   ·(simp only [hlarger,decide_false,Bool.false_eq_true,if_false])
    have heqx : Vk val (arrOf st') (lo + x) = Vk val (arrOf st') (lo + x - 1):=by omega
    refine wpS_pure ⟨neq + 1,rfl,hB',fun i j hli hij hj => ?_,by omega,fun i h1 h2 => ?_⟩
    ·by_cases hjx : j < lo + x
     ·exact hs' i j hli hij hjx
     ·have hj' : j = lo + x:=by omega
      subst hj'
      by_cases hi' : i = lo + x
      ·(subst hi'; exact Int.le_refl _)
      ·rw [heqx]; exact hs' i (lo + x - 1) hli (by omega) (by omega)
    ·rw [show lo + (x + 1) - 1 = lo + x by omega]
     by_cases hix : i = lo + x
     ·subst hix; rfl
     ·(rw [heqx]; exact he i (by omega) (by omega))
theorem zg2 {st₀ st : SortSt} {lo n nrem : Nat} {Q : Option Nat → SortSt → Prop} (hC : Cmp prog w A s κ val a₀) (hn : lo + nrem ≤ a₀.size) (hnn : n + 1 ≤ nrem) (hB : SF κ a₀ lo st₀ st)
  (hs : DIn val (arrOf st) lo (lo + (n + 1))) (h : ∀ m st',SF κ a₀ lo st₀ st' → 1 ≤ m → m ≤ nrem → SIn val (arrOf st') lo (lo + m) → Q (some m) st') :
  wpS (model prog w) A E s (zfN lo n nrem) Q st:=by
 unfold zfN
 (refine wpS_bind (wpS_lift (wpAny_rule ⟨rfl,?_⟩)))
 refine wpS_bind (zlk hC hn (by omega) hnn hB hs fun m neq st' hB' hm1 hm2 hs' hq he => ?_)
 dsimp only
 have hsz : lo + m ≤ (arrOf st').size:=by rw [hB'.b.size]; omega
 by_cases hneq : neq > 0
 ·rw [if_pos hneq]
  refine wpS_bind (zg0 (zi7 hC hn (by omega) hm2 (hB'.setArr (mirror_perm _ _ _ _) (zbG hsz (by omega))) ?_ h))
  intro i j hli hij hj
  show Vk val (mirror (arrOf st') _ _ _) j ≤ Vk val (mirror (arrOf st') _ _ _) i
  rw [za2 hsz he,za2 hsz he]
  exact hs' i j hli hij hj
 ·rw [if_neg hneq]
  exact zi7 hC hn (by omega) hm2 hB' hs' h
theorem zj1 {st₀ st : SortSt} {lo nrem : Nat} {Q : Option Nat → SortSt → Prop} (hC : Cmp prog w A s κ val a₀) (hn : lo + nrem ≤ a₀.size) (h1 : 1 ≤ nrem) (hB : SF κ a₀ lo st₀ st)
  (h : ∀ m st',SF κ a₀ lo st₀ st' → 1 ≤ m → m ≤ nrem → SIn val (arrOf st') lo (lo + m) → Q (some m) st') :
  wpS (model prog w) A E s (countRun' lo nrem) Q st:=by
 rw [zeX]
 refine wpS_bind (zkz hC hn (Nat.le_refl 1) h1 hB (fun i j hli hij hj => (by
   have e : i = j:=by omega
   rw [e]
   exact Int.le_refl _)) fun n hn1 hn2 hsn hor => ?_)
 dsimp only
 by_cases hnn : n = nrem
 ·(rw [if_pos (by simpa using hnn)])
  (exact wpS_pure (h n st hB hn1 hn2 hsn))
 ·(rw [if_neg (by simpa using hnn)])
  have hlt : Vk val (arrOf st) (lo + n) < Vk val (arrOf st) (lo + n - 1):=hor.resolve_left hnn
  by_cases hgt : n > 1
  ·rw [if_pos hgt]
   refine wpS_bind (zdG hC hB.b (by omega) (by omega) ?_)
   by_cases hrose : Vk val (arrOf st) lo < Vk val (arrOf st) (lo + n - 1)
   ·(simp only [hrose,decide_true,if_true])
    (exact wpS_pure (h n st hB hn1 hn2 hsn))
   ·(simp only [hrose,decide_false,Bool.false_eq_true,if_false])
    have hsz : lo + n ≤ (arrOf st).size:=by rw [hB.b.size]; omega
    have hall : ∀ k,lo ≤ k → k < lo + n → Vk val (arrOf st) k = Vk val (arrOf st) (lo + n - 1):=by
     intro k hk0 hk
     have a1:=hsn lo k (Nat.le_refl _) hk0 hk
     have a2:=hsn k (lo + n - 1) hk0 (by omega) (by omega)
     omega
    refine wpS_bind (zg0 (zg2 hC hn (by omega) (hB.setArr (mirror_perm _ _ _ _) (zbG hsz (Nat.le_refl _))) ?_ h))
    intro i j hli hij hj
    show Vk val (mirror (arrOf st) _ _ _) j ≤ Vk val (mirror (arrOf st) _ _ _) i
    rw [za2 hsz hall,za2 hsz hall]
    by_cases hjn : j < lo + n
    ·(rw [hall i (by omega) (by omega),hall j (by omega) hjn]; exact Int.le_refl _)
    ·have hj' : j = lo + n:=by omega
     subst hj'
     by_cases hi' : i = lo + n
     ·(subst hi'; exact Int.le_refl _)
     ·(rw [hall i (by omega) (by omega)]; exact Int.le_of_lt hlt)
  ·rw [if_neg hgt]
   have hn1' : n = 1:=by omega
   subst hn1'
   refine zg2 hC hn (by omega) hB ?_ h
   intro i j hli hij hj
   by_cases hi' : i = j
   ·(subst hi'; exact Int.le_refl _)
   ·have hi0 : i = lo:=by omega
    have hj1 : j = lo + 1:=by omega
    subst hi0; subst hj1
    exact Int.le_of_lt hlt
theorem zfO {xs : Array Keyed} {src d : Nat} (hs : src < xs.size) (hd : d ≤ src) (k : Nat) :
  Vk val (bubble xs src d) k = if k = src - d then Vk val xs src else if src - d < k ∧ k ≤ src then Vk val xs (k - 1) else Vk val xs k:=by
 (have e:=getElem?_bubble hs d hd k)
 by_cases h1 : k = src - d
 ·rw [if_pos h1] at e ⊢; exact zS e
 ·rw [if_neg h1] at e ⊢
  (by_cases h2 : src - d < k ∧ k ≤ src)
  ·rw [if_pos h2] at e ⊢; exact zS e
  ·rw [if_neg h2] at e ⊢; exact zS e
theorem zl3 {st₀ st : SortSt} {lo n ok : Nat} {Q : Bool → SortSt → Prop} (hC : Cmp prog w A s κ val a₀) (hn : lo + n ≤ a₀.size) (hok : ok ≤ n) (hB : SF κ a₀ lo st₀ st) (hs : SIn val (arrOf st) lo (lo + ok))
  (h : ∀ st',SF κ a₀ lo st₀ st' → SIn val (arrOf st') lo (lo + n) → Q true st') : wpS (model prog w) A E s (binarySort' lo n ok) Q st:=by
 rw [binarySort'_eq]
 refine wpS_bind (wpS_mono (wpS_forRange (I:=fun k c st' => c = (none,()) ∧ SF κ a₀ lo st₀ st' ∧ SIn val (arrOf st') lo (lo + min k n))
  (Q:=fun c st' => c = (none,()) ∧ SF κ a₀ lo st₀ st' ∧ SIn val (arrOf st') lo (lo + n)) ?step ?fin ?init) ?post)
 case post =>
  rintro c st' ⟨rfl,hB',hs'⟩
  (exact wpS_pure (h st' hB' hs'))
 case init =>
  refine ⟨rfl,hB,fun i j hli hij hj => ?_⟩
  by_cases h1 : ok = 0
  ·have e : i = j:=by omega
   rw [e]; exact Int.le_refl _
  ·exact hs i j hli hij (by omega)
 case fin =>
  rintro c st' ⟨hc,hB',hs'⟩
  refine ⟨hc,hB',?_⟩
  (rwa [show min (max (max ok 1) n) n = n by omega] at hs')
 case step =>
  (rintro k c st' hak hkn ⟨rfl,hB',hs'⟩)
  (rw [show min k n = k by omega] at hs')
  have hk : lo + k < a₀.size:=(by omega); refine wpS_bind (wpS_mono (wpS_forRange (I:=fun x c st'' => st'' = st' ∧ ∃ l r,c = (none,l,r) ∧ l ≤ r ∧ r ≤ k ∧ r - l ≤ k - x ∧
    (∀ i,i < l → Vk val (arrOf st') (lo + i) ≤ Vk val (arrOf st') (lo + k)) ∧ (∀ i,r ≤ i → i < k → Vk val (arrOf st') (lo + k) < Vk val (arrOf st') (lo + i)))
   (Q:=fun c st'' => st'' = st' ∧ ∃ l r,c = (none,l,r) ∧ l ≤ k ∧ (∀ i,i < l → Vk val (arrOf st') (lo + i) ≤ Vk val (arrOf st') (lo + k)) ∧ (∀ i,l ≤ i → i < k → Vk val (arrOf st') (lo + k) < Vk val (arrOf st') (lo + i))) ?istep ?ifin ?iinit) ?ipost)
  case iinit => (exact ⟨rfl,0,k,rfl,by omega,by omega,by omega,fun i hi => by omega,fun i h1 h2 => by omega⟩)
  case ifin =>
   (rintro c st'' ⟨rfl,l,r,rfl,hlr,hrk,hm,hlo,hhi⟩)
   have : l = r:=by omega
   subst this
   (exact ⟨rfl,l,l,rfl,hrk,hlo,hhi⟩)
  case istep =>
   (rintro x c st'' _ hxk ⟨rfl,l,r,rfl,hlr,hrk,hm,hlo,hhi⟩)
   dsimp only
   by_cases hge : l ≥ r
   ·rw [if_pos hge]
    have : l = r:=by omega
    subst this
    (exact wpS_pure ⟨rfl,l,l,rfl,hrk,hlo,hhi⟩)
   ·rw [if_neg hge]
    refine wpS_bind (zdG hC hB'.b hk (by omega) ?_)
    by_cases hless : Vk val (arrOf st'') (lo + k) < Vk val (arrOf st'') (lo + (l + r) / 2)
    ·(simp only [hless,decide_true,if_true])
     (refine wpS_pure ⟨rfl,l,(l + r) / 2,rfl,by omega,by omega,by omega,hlo,fun i h1 h2 => ?_⟩)
     exact Int.lt_of_lt_of_le hless (hs' _ _ (by omega) (by omega) (by omega))
    ·(simp only [hless,decide_false,Bool.false_eq_true,if_false])
     (refine wpS_pure ⟨rfl,(l + r) / 2 + 1,r,rfl,by omega,by omega,by omega,fun i h1 => ?_,hhi⟩)
     exact Int.le_trans (hs' (lo + i) (lo + (l + r) / 2) (by omega) (by omega) (by omega)) (Int.not_lt.mp hless)
  case ipost =>
   (rintro c st'' ⟨rfl,l,r,rfl,hlk,hlo,hhi⟩)
   show wpS _ _ _ _ (do moveDown' (lo + k) (lo + l); pure (ForInStep.yield (none,()))) _ _
   rw [moveDown'_eq]
   have hks : lo + k < (arrOf st'').size:=by rw [hB'.b.size]; exact hk
   refine wpS_bind (wpS_modify (wpS_pure ⟨rfl,hB'.setArr (bubble_perm _ _ _) (zgu hks (by omega) (by omega)),?_⟩))
   (rw [show min (k + 1) n = k + 1 by omega])
   intro i j hli hij hj
   show Vk val (bubble (arrOf st'') (lo + k) (lo + k - (lo + l))) i ≤ Vk val (bubble (arrOf st'') (lo + k) (lo + k - (lo + l))) j
   rw [zfO hks (by omega),zfO hks (by omega),show lo + k - (lo + k - (lo + l)) = lo + l by omega]
   have hlo' : ∀ i,lo ≤ i → i < lo + l → Vk val (arrOf st'') i ≤ Vk val (arrOf st'') (lo + k):=fun i h1 h2 => by
    have:=hlo (i - lo) (by omega)
    rwa [show lo + (i - lo) = i by omega] at this
   have hhi' : ∀ i,lo + l ≤ i → i < lo + k → Vk val (arrOf st'') (lo + k) < Vk val (arrOf st'') i:=fun i h1 h2 => by
    have:=hhi (i - lo) (by omega) (by omega)
    rwa [show lo + (i - lo) = i by omega] at this
   repeat' split
   all_goals first
    | (exfalso; omega)
    | exact Int.le_refl _
    | exact hlo' _ (by omega) (by omega)
    | exact Int.le_of_lt (hhi' _ (by omega) (by omega))
    | exact hs' _ _ (by omega) (by omega) (by omega)
end
end Srt
end
section
set_option maxHeartbeats 3995000
namespace Srt
open PySem PyProof.Rows
def zj2 : Bool → Keyed → Array Keyed → Nat → Nat → Nat → StateT SortSt Sem (Option Nat):=sortPriv% PySem.Builtin.gallop
def zi8 : Array Keyed → Array Keyed → StateT SortSt Sem (Array Keyed):=sortPriv% PySem.Builtin.mergeLo
def zi9 : Array Keyed → Array Keyed → StateT SortSt Sem (Array Keyed):=sortPriv% PySem.Builtin.mergeHi
def zcg : Nat → StateT SortSt Sem Unit:=sortPriv% PySem.Builtin.setMinGallop
theorem zeY {M : Model} {A : Around} {E : Value → Shared → Prop} {s : Shared} {α : Type} {m : StateT SortSt Sem α} {Q : α → SortSt → Prop} {st : SortSt} (h : wpAny M A (m st) (fun r s' => s' = s ∧ Q r.1 r.2) E s) : wpS M A E s m Q st:=h
theorem zeZ {M : Model} {A : Around} {E : Value → Shared → Prop} {s : Shared} {α : Type} {m : StateT SortSt Sem α} {Q : α → SortSt → Prop} {st : SortSt} (h : wpS M A E s m Q st) : wpAny M A (m st) (fun r s' => s' = s ∧ Q r.1 r.2) E s:=h
section
variable {prog : Program} {w : World} {A : Around} {E : Value → Shared → Prop} {s : Shared} {a₀ : Array Keyed} {κ : SortKind} {val : Keyed → Int}
def bB (val : Keyed → Int) (left : Bool) (key : Keyed) (arr : Array Keyed) (base i : Nat) : Bool:=if left then decide (Vk val arr (base + i) < val key) else !decide (val key < Vk val arr (base + i))
theorem zcx {left : Bool} {key : Keyed} {arr : Array Keyed} {base n i j : Nat} (hs : SIn val arr base (base + n)) (hij : i ≤ j) (hj : j < n) (h : bB val left key arr base j = true) : bB val left key arr base i = true:=by
 have:=hs (base + i) (base + j) (by omega) (by omega) (by omega)
 unfold bB at h ⊢
 cases left <;> simp at h ⊢ <;> omega
theorem zbW {st : SortSt} {left : Bool} {key : Keyed} {arr : Array Keyed} {base i : Nat} {Q : Option Bool → SortSt → Prop} {p : Keyed} (hC : Cmp prog w A s κ val a₀) (hk : kindOf st = κ) (hkey : key ∈ a₀.toList) (he : arr[base + i]? = some p) (hp : p ∈ a₀.toList)
  (h : Q (some (bB val left key arr base i)) st) : wpS (model prog w) A E s (do
   let x ← elem' arr (base + i)
   if left then lt' x key else do
    let r ← lt' key x
    return r.map (!·)) Q st:=by
 refine wpS_bind (zH he ?_)
 unfold bB at h
 rw [zJ he] at h
 cases left with
 | true => exact zi5 hC hk hp hkey h
 | false => exact wpS_bind (zi5 hC hk hkey hp (wpS_pure h))
abbrev zj3:=Option (Option Nat) × Nat × Nat
theorem zja {st : SortSt} {left : Bool} {key : Keyed} {arr : Array Keyed} {base n lo hi : Nat} {f : Nat → zj3 → StateT SortSt Sem (ForInStep zj3)} (hs : SIn val arr base (base + n)) (hlh : lo ≤ hi) (hhn : hi ≤ n)
  (h1 : ∀ i,i < lo → bB val left key arr base i = true) (h2 : ∀ i,hi ≤ i → i < n → bB val left key arr base i = false)
  (hf : ∀ (x l r : Nat) (R : ForInStep zj3 → SortSt → Prop),r ≤ n → (l ≥ r → R (.done (none,l,r)) st) → (l < r → R (if bB val left key arr base (l + (r - l) / 2) = true then .yield (none,l + (r - l) / 2 + 1,r) else .yield (none,l,l + (r - l) / 2)) st) → wpS (model prog w) A E s (f x (none,l,r)) R st) :
  wpS (model prog w) A E s (forIn [0:n] ((none,lo,hi) : zj3) f) (fun c st' => st' = st ∧ ∃ l,c = (none,l,l) ∧ l ≤ n ∧ (∀ i,i < l → bB val left key arr base i = true) ∧ (∀ i,l ≤ i → i < n → bB val left key arr base i = false)) st:=by
 refine wpS_forRange (I:=fun x c st' => st' = st ∧ ∃ l r,c = (none,l,r) ∧ l ≤ r ∧ r ≤ n ∧ r - l ≤ n - x ∧ (∀ i,i < l → bB val left key arr base i = true) ∧ (∀ i,r ≤ i → i < n → bB val left key arr base i = false)) ?step ?fin ⟨rfl,lo,hi,rfl,hlh,hhn,by omega,h1,h2⟩
 case fin =>
  rintro c st' ⟨rfl,l,r,rfl,hlr,hrn,hm,a1,a2⟩
  have : l = r:=by omega
  subst this
  exact ⟨rfl,l,rfl,hrn,a1,a2⟩
 case step =>
  rintro x c st' _ hxn ⟨rfl,l,r,rfl,hlr,hrn,hm,a1,a2⟩
  refine hf x l r _ hrn (fun hge => ?_) (fun hlt => ?_)
  ·have : l = r:=by omega
   subst this
   exact ⟨rfl,l,rfl,hrn,a1,a2⟩
  ·cases hb : bB val left key arr base (l + (r - l) / 2) with
   | true =>
    rw [if_pos rfl]
    exact ⟨rfl,l + (r - l) / 2 + 1,r,rfl,by omega,hrn,by omega,fun i hi => zcx hs (by omega) (by omega) hb,a2⟩
   | false =>
    rw [if_neg (by decide)]
    refine ⟨rfl,l,l + (r - l) / 2,rfl,by omega,by omega,by omega,a1,fun i hi hin => ?_⟩
    cases e : bB val left key arr base i with
    | false => rfl
    | true => rw [zcx hs hi hin e] at hb; cases hb
theorem za3 {st : SortSt} {left : Bool} {key : Keyed} {arr : Array Keyed} {base n hint : Nat} {Q : Option Nat → SortSt → Prop} (hC : Cmp prog w A s κ val a₀) (hk : kindOf st = κ) (hkey : key ∈ a₀.toList)
  (ha : ∀ i,i < n → ∃ p,arr[base + i]? = some p ∧ p ∈ a₀.toList) (hs : SIn val arr base (base + n)) (hh : hint < n)
  (h : ∀ k,k ≤ n → (∀ i,i < k → bB val left key arr base i = true) → (∀ i,k ≤ i → i < n → bB val left key arr base i = false) → Q (some k) st) :
  wpS (model prog w) A E s (zj2 left key arr base n hint) Q st:=by
 refine zeY ?_
 wp_delta
 wp_delta
 refine zeZ ?_
 dsimp only
 obtain ⟨p,ep,mp⟩:=ha hint hh
 refine wpS_bind (zbW hC hk hkey ep mp ?_)
 dsimp only
 have up : ∀ {i j : Nat},i ≤ j → j < n → bB val left key arr base i = false → bB val left key arr base j = false:=fun {i j} hij hj h => by
  cases e : bB val left key arr base j with
  | false => rfl
  | true => rw [zcx hs hij hj e] at h; cases h
 cases hr : bB val left key arr base hint with
 | true =>
  simp only [if_true]
  refine wpS_bind (wpS_mono (wpS_forRange (I:=fun x c st' => st' = st ∧ ∃ l o,c = (none,l,o) ∧ l < o ∧ x + 1 ≤ o ∧ hint + l < n ∧ bB val left key arr base (hint + l) = true)
   (Q:=fun c st' => st' = st ∧ ∃ l o,c = (none,l,o) ∧ l < o ∧ hint + l < n ∧ bB val left key arr base (hint + l) = true ∧ (hint + o < n → bB val left key arr base (hint + o) = false)) ?step ?fin ⟨rfl,0,1,rfl,by omega,by omega,hh,hr⟩) ?post)
  case fin =>
   rintro c st' ⟨rfl,l,o,rfl,hlo,hx,hl,hb⟩
   exact ⟨rfl,l,o,rfl,hlo,hl,hb,fun z => by omega⟩
  case step =>
   rintro x c st' _ hxn ⟨rfl,l,o,rfl,hlo,hx,hl,hb⟩
   dsimp only
   by_cases hge : o ≥ n - hint
   ·rw [if_pos hge]
    exact wpS_pure ⟨rfl,l,o,rfl,hlo,hl,hb,fun z => by omega⟩
   ·rw [if_neg hge]
    obtain ⟨p,ep,mp⟩:=ha (hint + o) (by omega)
    refine wpS_bind (zbW hC hk hkey ep mp ?_)
    dsimp only
    cases hb2 : bB val left key arr base (hint + o) with
    | true =>
     rw [if_neg (by decide)]
     exact wpS_pure ⟨rfl,o,2 * o + 1,rfl,by omega,by omega,by omega,hb2⟩
    | false =>
     rw [if_pos (by decide)]
     exact wpS_pure ⟨rfl,l,o,rfl,hlo,hl,hb,fun _ => hb2⟩
  case post =>
   rintro c st' ⟨rfl,l,o,rfl,hlo,hl,hb,hb2⟩
   dsimp only
   refine wpS_bind (wpS_mono (zja (val:=val) (left:=left) (key:=key) (arr:=arr) (base:=base) hs (by omega) (by omega) (fun i hi => zcx hs (by omega) hl hb) (fun i hi hin => (by
    by_cases ho : hint + o < n
    ·exact up (by omega) hin (hb2 ho)
    ·omega)) (fun x l' r' R hrn k1 k2 => ?_)) ?_)
   ·dsimp only
    by_cases hge : l' ≥ r'
    ·rw [if_pos hge]
     exact wpS_pure (k1 hge)
    ·rw [if_neg hge]
     obtain ⟨p,ep,mp⟩:=ha (l' + (r' - l') / 2) (by omega)
     refine wpS_bind (zbW hC hk hkey ep mp ?_)
     have k3:=k2 (by omega)
     dsimp only
     cases hb3 : bB val left key arr base (l' + (r' - l') / 2) with
     | true => rw [hb3] at k3; rw [if_pos rfl] at k3 ⊢; exact wpS_pure k3
     | false => rw [hb3] at k3; rw [if_neg (by decide)] at k3 ⊢; exact wpS_pure k3
   ·rintro c st'' ⟨rfl,l,rfl,hl,b1,b2⟩
    exact wpS_pure (h l hl b1 b2)
 | false =>
  (simp only [Bool.false_eq_true,if_false])
  refine wpS_bind (wpS_mono (wpS_forRange (I:=fun x c st' => st' = st ∧ ∃ l o,c = (none,l,o) ∧ l < o ∧ x + 1 ≤ o ∧ l ≤ hint ∧ bB val left key arr base (hint - l) = false)
   (Q:=fun c st' => st' = st ∧ ∃ l o,c = (none,l,o) ∧ l < o ∧ l ≤ hint ∧ bB val left key arr base (hint - l) = false ∧ (o ≤ hint → bB val left key arr base (hint - o) = true)) ?step ?fin ⟨rfl,0,1,rfl,by omega,by omega,by omega,hr⟩) ?post)
  case fin =>
   rintro c st' ⟨rfl,l,o,rfl,hlo,hx,hl,hb⟩
   exact ⟨rfl,l,o,rfl,hlo,hl,hb,fun z => by omega⟩
  case step =>
   rintro x c st' _ hxn ⟨rfl,l,o,rfl,hlo,hx,hl,hb⟩
   dsimp only
   by_cases hge : o ≥ hint + 1
   ·rw [if_pos hge]
    exact wpS_pure ⟨rfl,l,o,rfl,hlo,hl,hb,fun z => by omega⟩
   ·rw [if_neg hge]
    obtain ⟨p,ep,mp⟩:=ha (hint - o) (by omega)
    refine wpS_bind (zbW hC hk hkey ep mp ?_)
    dsimp only
    cases hb2 : bB val left key arr base (hint - o) with
    | false =>
     rw [if_neg (by decide)]
     exact wpS_pure ⟨rfl,o,2 * o + 1,rfl,by omega,by omega,by omega,hb2⟩
    | true =>
     rw [if_pos rfl]
     exact wpS_pure ⟨rfl,l,o,rfl,hlo,hl,hb,fun _ => hb2⟩
  case post =>
   rintro c st' ⟨rfl,l,o,rfl,hlo,hl,hb,hb2⟩
   dsimp only
   refine wpS_bind (wpS_mono (zja (val:=val) (left:=left) (key:=key) (arr:=arr) (base:=base) hs (by omega) (by omega) (fun i hi => (by
    by_cases ho : o ≤ hint
    ·exact zcx hs (by omega) (by omega) (hb2 ho)
    ·omega)) (fun i hi hin => up hi hin hb) (fun x l' r' R hrn k1 k2 => ?_)) ?_)
   ·dsimp only
    by_cases hge : l' ≥ r'
    ·rw [if_pos hge]
     exact wpS_pure (k1 hge)
    ·rw [if_neg hge]
     obtain ⟨p,ep,mp⟩:=ha (l' + (r' - l') / 2) (by omega)
     refine wpS_bind (zbW hC hk hkey ep mp ?_)
     have k3:=k2 (by omega)
     dsimp only
     cases hb3 : bB val left key arr base (l' + (r' - l') / 2) with
     | true => rw [hb3] at k3; rw [if_pos rfl] at k3 ⊢; exact wpS_pure k3
     | false => rw [hb3] at k3; rw [if_neg (by decide)] at k3 ⊢; exact wpS_pure k3
   ·rintro c st'' ⟨rfl,l,rfl,hl,b1,b2⟩
    exact wpS_pure (h l hl b1 b2)
end
end Srt
end
section
set_option maxHeartbeats 3995000
namespace Srt
open PySem PyProof.Rows
abbrev zab (st : SortSt) (g : Nat) : SortSt:=SortSt.mk' (kindOf st) (arrOf st) (pendingOf st) g (failedOf st)
theorem zcM (g : Nat) : zcg g = modify fun s => zab s g:=rfl
def Le (val : Keyed → Int) (xs ys : List Keyed) : Prop:=∀ x ∈ xs,∀ y ∈ ys,val x ≤ val y
def Ris (val : Keyed → Int) (xs : List Keyed) : Prop:=xs.Pairwise fun x y => val x ≤ val y
theorem zak {val : Keyed → Int} {xs ys : List Keyed} : Ris val (xs ++ ys) ↔ Ris val xs ∧ Ris val ys ∧ Le val xs ys:=List.pairwise_append
structure MI (val : Keyed → Int) (T o l r : List Keyed) : Prop where
 perm : (o ++ l ++ r).Perm T
 so : Ris val o
 sl : Ris val l
 sr : Ris val r
 ol : Le val o l
 or' : Le val o r
def Good (val : Keyed → Int) (T res : List Keyed) : Prop:=res.Perm T ∧ Ris val res
section
variable {val : Keyed → Int} {T o l l1 l2 r r1 r2 : List Keyed}
theorem Le.left {xs ys zs : List Keyed} (h : Le val (xs ++ ys) zs) : Le val xs zs:=fun x hx y hy => h x (List.mem_append_left _ hx) y hy
theorem Le.right {xs ys zs : List Keyed} (h : Le val (xs ++ ys) zs) : Le val ys zs:=fun x hx y hy => h x (List.mem_append_right _ hx) y hy
theorem Le.app {xs ys zs : List Keyed} (h1 : Le val xs zs) (h2 : Le val ys zs) : Le val (xs ++ ys) zs:=fun x hx y hy => by
 rcases List.mem_append.mp hx with h | h
 ·exact h1 x h y hy
 ·exact h2 x h y hy
theorem Le.app' {xs ys zs : List Keyed} (h1 : Le val xs ys) (h2 : Le val xs zs) : Le val xs (ys ++ zs):=fun x hx y hy => by
 rcases List.mem_append.mp hy with h | h
 ·exact h1 x hx y h
 ·exact h2 x hx y h
theorem Le.sub {xs ys zs : List Keyed} (h1 : Le val xs (ys ++ zs)) : Le val xs ys ∧ Le val xs zs:=⟨fun x hx y hy => h1 x hx y (List.mem_append_left _ hy),fun x hx y hy => h1 x hx y (List.mem_append_right _ hy)⟩
theorem MI.takeA (h : MI val T o (l1 ++ l2) r) (hle : Le val l1 r) : MI val T (o ++ l1) l2 r:=by
 obtain ⟨a1,a2,a3⟩:=zak.mp h.sl
 obtain ⟨b1,b2⟩:=h.ol.sub
 exact ⟨by have:=h.perm; simpa [List.append_assoc] using this,zak.mpr ⟨h.so,a1,b1⟩,a2,h.sr,b2.app a3,h.or'.app hle⟩
theorem MI.takeB (h : MI val T o l (r1 ++ r2)) (hle : Le val r1 l) : MI val T (o ++ r1) l r2:=by
 obtain ⟨a1,a2,a3⟩:=zak.mp h.sr
 obtain ⟨b1,b2⟩:=h.or'.sub
 refine ⟨?_,zak.mpr ⟨h.so,a1,b1⟩,h.sl,a2,h.ol.app hle,b2.app a3⟩
 refine List.Perm.trans ?_ h.perm
 have : (r1 ++ l ++ r2).Perm (l ++ r1 ++ r2):=List.perm_append_comm.append_right _
 simpa [List.append_assoc] using this.append_left o
theorem MI.doneA (h : MI val T o l []) : Good val T (o ++ l):=⟨by have:=h.perm; simpa using this,zak.mpr ⟨h.so,h.sl,h.ol⟩⟩
theorem MI.doneB (h : MI val T o [] r) : Good val T (o ++ r):=⟨by have:=h.perm; simpa using this,zak.mpr ⟨h.so,h.sr,h.or'⟩⟩
theorem MI.last (h : MI val T o l r) (hle : Le val r l) : Good val T (o ++ r ++ l):=by
 refine ⟨List.Perm.trans ?_ h.perm,?_⟩
 ·rw [List.append_assoc,List.append_assoc]
  exact List.perm_append_comm.append_left o
 ·exact zak.mpr ⟨zak.mpr ⟨h.so,h.sr,h.or'⟩,h.sl,h.ol.app hle⟩
end
section
variable {val : Keyed → Int} {T : List Keyed} {a b out : Array Keyed} {ia ib : Nat}
abbrev MA (val : Keyed → Int) (T : List Keyed) (a b out : Array Keyed) (ia ib : Nat) : Prop:=MI val T out.toList (a.toList.drop ia) (b.toList.drop ib)
theorem zdf {xs : Array Keyed} {i : Nat} {p : Keyed} (h : xs[i]? = some p) : xs.toList.drop i = p :: xs.toList.drop (i + 1):=by
 have hi : i < xs.toList.length:=by
  have:=(Array.getElem?_eq_some_iff.mp h).1
  simpa using this
 rw [List.drop_eq_getElem_cons hi]
 congr 1
 have:=(Array.getElem?_eq_some_iff.mp h).2
 simpa using this
theorem zcy {xs : Array Keyed} (h : SIn val xs 0 xs.size) : ∀ i,Ris val (xs.toList.drop i):=by
 have all : Ris val xs.toList:=by
  unfold Ris
  (rw [List.pairwise_iff_getElem])
  intro i j hi hj hij
  (have hi' : i < xs.size:=by simpa using hi)
  (have hj' : j < xs.size:=by simpa using hj)
  have:=h i j (Nat.zero_le _) (by omega) hj'
  rw [zJ (getElem?_pos xs i hi'),zJ (getElem?_pos xs j hj')] at this
  simpa using this
 exact fun i => List.Pairwise.sublist (List.drop_sublist _ _) all
theorem zdg {xs : Array Keyed} {i : Nat} {p q : Keyed} (h : SIn val xs 0 xs.size) (hp : xs[i]? = some p) (hq : q ∈ xs.toList.drop i) : val p ≤ val q:=by
 have:=zcy h i
 rw [zdf hp] at this hq
 rcases (List.mem_cons.mp hq) with rfl | hq
 ·exact Int.le_refl _
 ·exact List.rel_of_pairwise_cons this hq
theorem MA.pushB {y x : Keyed} (h : MA val T a b out ia ib) (sa : SIn val a 0 a.size) (hy : b[ib]? = some y) (hx : a[ia]? = some x) (hle : val y ≤ val x) : MA val T a b (out.push y) ia (ib + 1):=by
 unfold MA at h ⊢
 rw [zdf hy] at h
 have:=MI.takeB (r1:=[y]) h fun p hp q hq => by
  rw [List.mem_singleton.mp hp]
  exact Int.le_trans hle (zdg sa hx hq)
 simpa using this
theorem MA.pushA {y x : Keyed} (h : MA val T a b out ia ib) (sb : SIn val b 0 b.size) (hy : b[ib]? = some y) (hx : a[ia]? = some x) (hle : val x ≤ val y) : MA val T a b (out.push x) (ia + 1) ib:=by
 unfold MA at h ⊢
 rw [zdf hx] at h
 have:=MI.takeA (l1:=[x]) h fun p hp q hq => by
  rw [List.mem_singleton.mp hp]
  exact Int.le_trans hle (zdg sb hy hq)
 simpa using this
theorem zjb (xs : Array Keyed) (i k : Nat) : xs.toList.drop i = (xs.extract i (i + k)).toList ++ xs.toList.drop (i + k):=by
 rw [Array.toList_extract]
 have : (xs.toList.extract i (i + k)) = (xs.toList.drop i).take k:=by
  simp [List.extract_eq_take_drop] <;> omega
 rw [this,← List.drop_drop,List.take_append_drop]
theorem zdh {xs : Array Keyed} {i k : Nat} {p : Keyed} (h : p ∈ (xs.extract i (i + k)).toList) : ∃ j,j < k ∧ xs[i + j]? = some p:=by
 have e0 : (xs.extract i (i + k)).toList = (xs.toList.drop i).take k:=by
  rw [Array.toList_extract]
  simp [List.extract_eq_take_drop] <;> omega
 rw [e0] at h
 (obtain ⟨j,hj,e⟩:=List.getElem_of_mem h)
 have hj2 : j < k ∧ j < (xs.toList.drop i).length:=by
  rw [List.length_take] at hj
  omega
 refine ⟨j,hj2.1,?_⟩
 rw [← Array.getElem?_toList,← List.getElem?_drop,List.getElem?_eq_getElem hj2.2,← e,List.getElem_take]
theorem MA.takeA {y : Keyed} {k : Nat} (h : MA val T a b out ia ib) (sb : SIn val b 0 b.size) (hy : b[ib]? = some y) (hle : ∀ i,i < k → Vk val a (ia + i) ≤ val y) : MA val T a b (out ++ a.extract ia (ia + k)) (ia + k) ib:=by
 unfold MA at h ⊢
 rw [zjb a ia k] at h
 have:=MI.takeA h fun p hp q hq => by
  obtain ⟨j,hj,e⟩:=zdh hp
  have:=hle j hj
  rw [zJ e] at this
  exact Int.le_trans this (zdg sb hy hq)
 simpa using this
theorem MA.takeB {x : Keyed} {k : Nat} (h : MA val T a b out ia ib) (sa : SIn val a 0 a.size) (hx : a[ia]? = some x) (hle : ∀ i,i < k → Vk val b (ib + i) ≤ val x) : MA val T a b (out ++ b.extract ib (ib + k)) ia (ib + k):=by
 unfold MA at h ⊢
 rw [zjb b ib k] at h
 have:=MI.takeB h fun p hp q hq => by
  obtain ⟨j,hj,e⟩:=zdh hp
  have:=hle j hj
  rw [zJ e] at this
  exact Int.le_trans this (zdg sa hx hq)
 simpa using this
theorem zb2 (xs : Array Keyed) (i : Nat) : (xs.extract i xs.size).toList = xs.toList.drop i:=by
 rw [Array.toList_extract]
 simp only [List.extract_eq_take_drop]
 (exact List.take_of_length_le (by simp))
theorem MA.doneB (h : MA val T a b out ia ib) (e : ib = b.size) : Good val T (out ++ a.extract ia a.size ++ b.extract ib b.size).toList:=by
 unfold MA at h
 rw [show b.toList.drop ib = [] from List.drop_eq_nil_of_le (by simp [e])] at h
 have:=h.doneA
 rw [Array.toList_append,Array.toList_append,zb2,zb2,show b.toList.drop ib = [] from List.drop_eq_nil_of_le (by simp [e]),List.append_nil]
 exact this
theorem MA.doneA (h : MA val T a b out ia ib) (e : ia = a.size) : Good val T (out ++ a.extract ia a.size ++ b.extract ib b.size).toList:=by
 unfold MA at h
 rw [show a.toList.drop ia = [] from List.drop_eq_nil_of_le (by simp [e])] at h
 have:=h.doneB
 rw [Array.toList_append,Array.toList_append,zb2,zb2,show a.toList.drop ia = [] from List.drop_eq_nil_of_le (by simp [e]),List.append_nil]
 exact this
theorem MA.last (h : MA val T a b out ia ib) (e : ia + 1 = a.size) (hl : ∀ i,i < b.size → Vk val b i ≤ Vk val a (a.size - 1)) : Good val T (out ++ b.extract ib b.size ++ a.extract ia a.size).toList:=by
 unfold MA at h
 have hx : a[ia]? = some (a[ia]'(by omega)):=getElem?_pos a ia (by omega)
 have:=h.last fun p hp q hq => by
  rw [zdf hx,show a.toList.drop (ia + 1) = [] from List.drop_eq_nil_of_le (by simp [e])] at hq
  rw [List.mem_singleton.mp hq]
  obtain ⟨j,hj,ej⟩:=List.getElem_of_mem (List.mem_of_mem_drop hp)
  have hj' : j < b.size:=by simpa using hj
  have:=hl j hj'
  rw [zJ (getElem?_pos b j hj'),show a.size - 1 = ia by omega,zJ hx] at this
  rw [← ej]
  simpa using this
 rw [Array.toList_append,Array.toList_append,zb2,zb2]
 exact this
end
end Srt
end
section
set_option maxHeartbeats 3995000
namespace Srt
open PySem PyProof.Rows
section
variable {prog : Program} {w : World} {A : Around} {E : Value → Shared → Prop} {s : Shared} {a₀ : Array Keyed} {κ : SortKind} {val : Keyed → Int}
theorem zcz {st : SortSt} {g : Nat} {Q : Unit → SortSt → Prop} (h : Q () (zab st g)) : wpS (model prog w) A E s (zcg g) Q st:=by
 rw [zcM]
 exact wpS_modify h
theorem zah {xs : Array Keyed} {i : Nat} (h : i < xs.size) : ∃ p,xs[i]? = some p ∧ p ∈ xs.toList:=⟨xs[i],getElem?_pos xs i h,by simp⟩
theorem zbH {key : Keyed} {arr : Array Keyed} {base i : Nat} (h : bB val true key arr base i = true) : Vk val arr (base + i) < val key:=by
 unfold bB at h
 simpa using h
theorem zcA {key : Keyed} {arr : Array Keyed} {base i : Nat} (h : bB val false key arr base i = true) : Vk val arr (base + i) ≤ val key:=by
 unfold bB at h
 simp at h
 omega
theorem zco {key : Keyed} {arr : Array Keyed} {base i : Nat} (h : bB val true key arr base i = false) : val key ≤ Vk val arr (base + i):=by
 unfold bB at h
 simp at h
 omega
theorem zdi {key : Keyed} {arr : Array Keyed} {base i : Nat} (h : bB val false key arr base i = false) : val key < Vk val arr (base + i):=by
 unfold bB at h
 simp at h
 exact h
theorem SIn.sub {xs : Array Keyed} {lo hi lo' hi' : Nat} (h : SIn val xs lo hi) (h1 : lo ≤ lo') (h2 : hi' ≤ hi) : SIn val xs lo' hi':=fun i j a b c => h i j (by omega) b (by omega)
theorem zhU {st : SortSt} {a b : Array Keyed} {Q : Array Keyed → SortSt → Prop} (hC : Cmp prog w A s κ val a₀) (hk : kindOf st = κ) (ma : ∀ p ∈ a.toList,p ∈ a₀.toList) (mb : ∀ p ∈ b.toList,p ∈ a₀.toList)
  (sa : SIn val a 0 a.size) (sb : SIn val b 0 b.size) (h1 : 1 ≤ a.size) (h2 : 1 ≤ b.size) (hf : Vk val b 0 ≤ Vk val a 0) (hl : ∀ i,i < b.size → Vk val b i ≤ Vk val a (a.size - 1))
  (h : ∀ out g,Good val (a.toList ++ b.toList) out.toList → Q out (zab st g)) : wpS (model prog w) A E s (zi8 a b) Q st:=by
 refine zeY ?_
 wp_delta
 wp_delta
 refine zeZ ?_
 (refine wpS_bind (wpS_lift (wpAny_rule ⟨rfl,?_⟩)))
 obtain ⟨y0,ey0,my0⟩:=zah (xs:=b) (i:=0) (by omega)
 obtain ⟨x0,ex0,mx0⟩:=zah (xs:=a) (i:=0) (by omega)
 refine wpS_bind (zH ey0 ?_)
 have I0 : MA val (a.toList ++ b.toList) a b #[] 0 0:=⟨by simp,List.Pairwise.nil,zcy sa 0,zcy sb 0,fun x hx => by simp at hx,fun x hx => by simp at hx⟩
 have I1 : MA val (a.toList ++ b.toList) a b #[y0] 0 1:=I0.pushB sa ey0 ex0 (by rw [zJ ey0,zJ ex0] at hf; exact hf)
 dsimp only
 by_cases hb1 : 1 = b.size
 ·rw [if_pos (by simpa using hb1)]
  exact wpS_pure (h _ (gallopOf st) (I1.doneB hb1))
 rw [if_neg (by simpa using hb1)]
 by_cases ha1 : 0 + 1 = a.size
 ·rw [if_pos (by simpa using ha1)]
  exact wpS_pure (h _ (gallopOf st) (I1.last (by omega) hl))
 rw [if_neg (by simpa using ha1)]
 refine wpS_bind (wpS_get ?_)
 refine wpS_bind (wpS_mono (wpS_forRange (I:=fun x c st' => ∃ g out ia ib mg,st' = zab st g ∧ c = (none,out,ia,ib,mg) ∧ MA val (a.toList ++ b.toList) a b out ia ib ∧ ia + 1 < a.size ∧ ib < b.size ∧ x + 1 ≤ ia + ib)
  (Q:=fun c st' => ∃ g r o,st' = zab st g ∧ c = (some r,o) ∧ Good val (a.toList ++ b.toList) r.toList) ?step ?fin ⟨gallopOf st,#[y0],0,1,gallopOf st,rfl,rfl,I1,by omega,by omega,by omega⟩) ?post)
 case post =>
  rintro c st' ⟨g,r,o,rfl,rfl,hG⟩
  exact wpS_pure (h _ g hG)
 case fin =>
  rintro c st' ⟨g,out,ia,ib,mg,rfl,rfl,hI,b1,b2,b3⟩
  omega
 case step =>
  rintro x c st' _ hx ⟨g,out,ia,ib,mg,rfl,rfl,hI,b1,b2,b3⟩
  dsimp only
  refine wpS_bind (wpS_mono (wpS_forRange (I:=fun x c st' => st' = zab st g ∧ ∃ out' ia' ib' ac bc,c = (none,out',ia',ib',ac,bc) ∧ MA val (a.toList ++ b.toList) a b out' ia' ib' ∧ ia' + 1 < a.size ∧ ib' < b.size ∧ ia + ib + x ≤ ia' + ib')
   (Q:=fun c st' => st' = zab st g ∧ ((∃ r o,c = (some r,o) ∧ Good val (a.toList ++ b.toList) r.toList) ∨ ∃ out' ia' ib' ac bc,c = (none,out',ia',ib',ac,bc) ∧ MA val (a.toList ++ b.toList) a b out' ia' ib' ∧ ia' + 1 < a.size ∧ ib' < b.size ∧ ia + ib + 1 ≤ ia' + ib')) ?step1 ?fin1 ⟨rfl,out,ia,ib,0,0,rfl,hI,b1,b2,by omega⟩) ?post1)
  case fin1 =>
   rintro c st' ⟨rfl,out',ia',ib',ac,bc,rfl,hI,b1,b2,b3⟩
   exact ⟨rfl,.inr ⟨out',ia',ib',ac,bc,rfl,hI,b1,b2,by omega⟩⟩
  case step1 =>
   rintro x1 c st' _ hx1 ⟨rfl,out',ia',ib',ac,bc,rfl,hI,b1,b2,b3⟩
   dsimp only
   obtain ⟨y,ey,my⟩:=zah (xs:=b) (i:=ib') (by omega)
   obtain ⟨z,ez,mz⟩:=zah (xs:=a) (i:=ia') (by omega)
   refine wpS_bind (zH ey (wpS_bind (zH ez (wpS_bind (zi5 hC hk (mb y my) (ma z mz) ?_)))))
   dsimp only
   by_cases hyz : val y < val z
   ·rw [if_pos (by simpa using hyz)]
    refine wpS_bind (zH ey ?_)
    have hI2:=hI.pushB sa ey ez (by omega)
    by_cases e1 : ib' + 1 = b.size
    ·rw [if_pos (by simpa using e1)]
     exact wpS_pure ⟨rfl,.inl ⟨_,_,rfl,hI2.doneB e1⟩⟩
    rw [if_neg (by simpa using e1)]
    split
    ·exact wpS_pure ⟨rfl,.inr ⟨_,_,_,_,_,rfl,hI2,b1,by omega,by omega⟩⟩
    ·exact wpS_pure ⟨rfl,_,_,_,_,_,rfl,hI2,b1,by omega,by omega⟩
   ·rw [if_neg (by simpa using hyz)]
    refine wpS_bind (zH ez ?_)
    have hI2:=hI.pushA sb ey ez (by omega)
    by_cases e1 : ia' + 1 + 1 = a.size
    ·rw [if_pos (by simpa using e1)]
     exact wpS_pure ⟨rfl,.inl ⟨_,_,rfl,hI2.last e1 hl⟩⟩
    rw [if_neg (by simpa using e1)]
    split
    ·exact wpS_pure ⟨rfl,.inr ⟨_,_,_,_,_,rfl,hI2,by omega,b2,by omega⟩⟩
    ·exact wpS_pure ⟨rfl,_,_,_,_,_,rfl,hI2,by omega,b2,by omega⟩
  case post1 =>
   rintro c st' ⟨rfl,hc⟩
   rcases hc with ⟨r,o,rfl,hG⟩ | ⟨out1,ia1,ib1,ac1,bc1,rfl,hI1,c1,c2,c3⟩
   ·exact wpS_pure ⟨g,r,_,rfl,rfl,hG⟩
   dsimp only
   (refine wpS_bind (wpS_lift (wpAny_rule ⟨rfl,?_⟩)))
   refine wpS_bind (wpS_mono (wpS_forRange (I:=fun x c st' => ∃ g out' ia' ib' mg ac bc,st' = zab st g ∧ c = (none,out',ia',ib',mg,ac,bc) ∧ MA val (a.toList ++ b.toList) a b out' ia' ib' ∧ ia' + 1 < a.size ∧ ib' < b.size ∧ ia1 + ib1 ≤ ia' + ib')
    (Q:=fun c st' => ∃ g,st' = zab st g ∧ ((∃ r o,c = (some r,o) ∧ Good val (a.toList ++ b.toList) r.toList) ∨ ∃ out' ia' ib' mg ac bc,c = (none,out',ia',ib',mg,ac,bc) ∧ MA val (a.toList ++ b.toList) a b out' ia' ib' ∧ ia' + 1 < a.size ∧ ib' < b.size ∧ ia1 + ib1 ≤ ia' + ib')) ?step2 ?fin2 ⟨g,out1,ia1,ib1,_,ac1,bc1,rfl,rfl,hI1,c1,c2,Nat.le_refl _⟩) ?post2)
   case fin2 =>
    rintro c st' ⟨g,out',ia',ib',mg,ac,bc,rfl,rfl,hI,b1,b2,b3⟩
    exact ⟨g,rfl,.inr ⟨out',ia',ib',mg,ac,bc,rfl,hI,b1,b2,b3⟩⟩
   case post2 =>
    rintro c st' ⟨g,rfl,hc⟩
    rcases hc with ⟨r,o,rfl,hG⟩ | ⟨out2,ia2,ib2,mg2,ac2,bc2,rfl,hI2,d1,d2,d3⟩
    ·exact wpS_pure ⟨g,r,_,rfl,rfl,hG⟩
    dsimp only
    refine wpS_bind (zcz (wpS_pure ⟨_,out2,ia2,ib2,_,rfl,rfl,hI2,d1,d2,by omega⟩))
   case step2 =>
    rintro x2 c st' _ hx2 ⟨g,out',ia',ib',mg',ac,bc,rfl,rfl,hI,b1,b2,b3⟩
    dsimp only
    obtain ⟨y,ey,my⟩:=zah (xs:=b) (i:=ib') (by omega)
    by_cases hmg : mg' > 1
    all_goals
     first
      | rw [if_pos hmg]
      | rw [if_neg hmg]
     refine wpS_bind (zcz (wpS_bind (zH ey (wpS_bind (za3 hC hk (mb y my) (fun i hi => (by
      obtain ⟨p,ep,mp⟩:=zah (xs:=a) (i:=ia' + i) (by omega)
      exact ⟨p,ep,ma p mp⟩)) (sa.sub (by omega) (by omega)) (by omega) fun k hk1 hk2 hk3 => ?_)))))
     dsimp only
     have hI2:=hI.takeA (k:=k) sb ey fun i hi => zcA (hk2 i hi)
     by_cases hk0 : k > 0
     ·rw [if_pos hk0]
      by_cases e1 : ia' + k + 1 = a.size
      ·rw [if_pos (by simpa using e1)]
       exact wpS_pure ⟨_,rfl,.inl ⟨_,_,rfl,hI2.last e1 hl⟩⟩
      rw [if_neg (by simpa using e1)]
      by_cases e2 : ia' + k = a.size
      ·rw [if_pos (by simpa using e2)]
       exact wpS_pure ⟨_,rfl,.inl ⟨_,_,rfl,hI2.doneA e2⟩⟩
      rw [if_neg (by simpa using e2)]
      refine wpS_bind (zH ey ?_)
      obtain ⟨z,ez,mz⟩:=zah (xs:=a) (i:=ia' + k) (by omega)
      have hI3:=hI2.pushB sa ey ez (by have:=zdi (hk3 k (Nat.le_refl _) (by omega)); rw [zJ ez] at this; omega)
      by_cases e3 : ib' + 1 = b.size
      ·rw [if_pos (by simpa using e3)]
       exact wpS_pure ⟨_,rfl,.inl ⟨_,_,rfl,hI3.doneB e3⟩⟩
      rw [if_neg (by simpa using e3)]
      refine wpS_bind (zH ez (wpS_bind (za3 hC hk (ma z mz) (fun i hi => (by
       obtain ⟨p,ep,mp⟩:=zah (xs:=b) (i:=ib' + 1 + i) (by omega)
       exact ⟨p,ep,mb p mp⟩)) (sb.sub (by omega) (by omega)) (by omega) fun j hj1 hj2 hj3 => ?_)))
      dsimp only
      have hI4:=hI3.takeB (k:=j) sa ez fun i hi => Int.le_of_lt (zbH (hj2 i hi))
      by_cases hj0 : j > 0
      ·rw [if_pos hj0]
       by_cases e4 : ib' + 1 + j = b.size
       ·rw [if_pos (by simpa using e4)]
        exact wpS_pure ⟨_,rfl,.inl ⟨_,_,rfl,hI4.doneB e4⟩⟩
       rw [if_neg (by simpa using e4)]
       obtain ⟨y2,ey2,my2⟩:=zah (xs:=b) (i:=ib' + 1 + j) (by omega)
       refine wpS_bind (zH ez ?_)
       have hIc:=hI4.pushA sb ey2 ez (by have:=zco (hj3 j (Nat.le_refl _) (by omega)); rw [zJ ey2] at this; exact this)
       by_cases e9 : ia' + k + 1 + 1 = a.size
       ·rw [if_pos (by simpa using e9)]
        exact wpS_pure ⟨_,rfl,.inl ⟨_,_,rfl,hIc.last e9 hl⟩⟩
       rw [if_neg (by simpa using e9)]
       split
       ·exact wpS_pure ⟨_,rfl,.inr ⟨_,_,_,_,_,_,rfl,hIc,by omega,by omega,by omega⟩⟩
       ·exact wpS_pure ⟨_,_,_,_,_,_,_,rfl,rfl,hIc,by omega,by omega,by omega⟩
      ·rw [if_neg hj0]
       have hj00 : j = 0:=by omega
       subst hj00
       obtain ⟨y2,ey2,my2⟩:=zah (xs:=b) (i:=ib' + 1) (by omega)
       refine wpS_bind (zH ez ?_)
       have hIc:=hI3.pushA sb ey2 ez (by have:=zco (hj3 0 (Nat.le_refl _) (by omega)); rw [Nat.add_zero,zJ ey2] at this; exact this)
       by_cases e9 : ia' + k + 1 + 1 = a.size
       ·rw [if_pos (by simpa using e9)]
        exact wpS_pure ⟨_,rfl,.inl ⟨_,_,rfl,hIc.last e9 hl⟩⟩
       rw [if_neg (by simpa using e9)]
       split
       ·exact wpS_pure ⟨_,rfl,.inr ⟨_,_,_,_,_,_,rfl,hIc,by omega,by omega,by omega⟩⟩
       ·exact wpS_pure ⟨_,_,_,_,_,_,_,rfl,rfl,hIc,by omega,by omega,by omega⟩
     ·rw [if_neg hk0]
      have hk00 : k = 0:=by omega
      subst hk00
      refine wpS_bind (zH ey ?_)
      obtain ⟨z,ez,mz⟩:=zah (xs:=a) (i:=ia') (by omega)
      have hI3:=hI.pushB sa ey ez (by have:=zdi (hk3 0 (Nat.le_refl _) (by omega)); rw [Nat.add_zero,zJ ez] at this; omega)
      by_cases e3 : ib' + 1 = b.size
      ·rw [if_pos (by simpa using e3)]
       exact wpS_pure ⟨_,rfl,.inl ⟨_,_,rfl,hI3.doneB e3⟩⟩
      rw [if_neg (by simpa using e3)]
      refine wpS_bind (zH ez (wpS_bind (za3 hC hk (ma z mz) (fun i hi => (by
       obtain ⟨p,ep,mp⟩:=zah (xs:=b) (i:=ib' + 1 + i) (by omega)
       exact ⟨p,ep,mb p mp⟩)) (sb.sub (by omega) (by omega)) (by omega) fun j hj1 hj2 hj3 => ?_)))
      dsimp only
      have hI4:=hI3.takeB (k:=j) sa ez fun i hi => Int.le_of_lt (zbH (hj2 i hi))
      by_cases hj0 : j > 0
      ·rw [if_pos hj0]
       by_cases e4 : ib' + 1 + j = b.size
       ·rw [if_pos (by simpa using e4)]
        exact wpS_pure ⟨_,rfl,.inl ⟨_,_,rfl,hI4.doneB e4⟩⟩
       rw [if_neg (by simpa using e4)]
       obtain ⟨y2,ey2,my2⟩:=zah (xs:=b) (i:=ib' + 1 + j) (by omega)
       refine wpS_bind (zH ez ?_)
       have hIc:=hI4.pushA sb ey2 ez (by have:=zco (hj3 j (Nat.le_refl _) (by omega)); rw [zJ ey2] at this; exact this)
       by_cases e9 : ia' + 1 + 1 = a.size
       ·rw [if_pos (by simpa using e9)]
        exact wpS_pure ⟨_,rfl,.inl ⟨_,_,rfl,hIc.last e9 hl⟩⟩
       rw [if_neg (by simpa using e9)]
       split
       ·exact wpS_pure ⟨_,rfl,.inr ⟨_,_,_,_,_,_,rfl,hIc,by omega,by omega,by omega⟩⟩
       ·exact wpS_pure ⟨_,_,_,_,_,_,_,rfl,rfl,hIc,by omega,by omega,by omega⟩
      ·rw [if_neg hj0]
       have hj00 : j = 0:=by omega
       subst hj00
       obtain ⟨y2,ey2,my2⟩:=zah (xs:=b) (i:=ib' + 1) (by omega)
       refine wpS_bind (zH ez ?_)
       have hIc:=hI3.pushA sb ey2 ez (by have:=zco (hj3 0 (Nat.le_refl _) (by omega)); rw [Nat.add_zero,zJ ey2] at this; exact this)
       by_cases e9 : ia' + 1 + 1 = a.size
       ·rw [if_pos (by simpa using e9)]
        exact wpS_pure ⟨_,rfl,.inl ⟨_,_,rfl,hIc.last e9 hl⟩⟩
       rw [if_neg (by simpa using e9)]
       split
       ·exact wpS_pure ⟨_,rfl,.inr ⟨_,_,_,_,_,_,rfl,hIc,by omega,by omega,by omega⟩⟩
       ·exact wpS_pure ⟨_,_,_,_,_,_,_,rfl,rfl,hIc,by omega,by omega,by omega⟩
end
end Srt
end
section
set_option maxHeartbeats 3995000
namespace Srt
open PySem PyProof.Rows
structure MH (val : Keyed → Int) (T l r o : List Keyed) : Prop where
 perm : (l ++ r ++ o).Perm T
 so : Ris val o
 sl : Ris val l
 sr : Ris val r
 lo : Le val l o
 ro : Le val r o
section
variable {val : Keyed → Int} {T o l l1 l2 r r1 r2 : List Keyed}
theorem MH.takeA (h : MH val T (l1 ++ l2) r o) (hle : Le val r l2) : MH val T l1 r (l2 ++ o):=by
 obtain ⟨a1,a2,a3⟩:=zak.mp h.sl
 refine ⟨?_,zak.mpr ⟨a2,h.so,h.lo.right⟩,a1,h.sr,a3.app' h.lo.left,hle.app' h.ro⟩
 refine List.Perm.trans ?_ h.perm
 have : (r ++ l2).Perm (l2 ++ r):=List.perm_append_comm
 have:=(this.append_left l1).append_right o
 simpa [List.append_assoc] using this
theorem MH.takeB (h : MH val T l (r1 ++ r2) o) (hle : Le val l r2) : MH val T l r1 (r2 ++ o):=by
 obtain ⟨a1,a2,a3⟩:=zak.mp h.sr
 exact ⟨by have:=h.perm; simpa [List.append_assoc] using this,zak.mpr ⟨a2,h.so,h.ro.right⟩,h.sl,a1,hle.app' h.lo,a3.app' h.ro.left⟩
theorem MH.doneA (h : MH val T [] r o) : Good val T (r ++ o):=⟨by have:=h.perm; simpa using this,zak.mpr ⟨h.sr,h.so,h.ro⟩⟩
theorem MH.doneB (h : MH val T l [] o) : Good val T (l ++ o):=⟨by have:=h.perm; simpa using this,zak.mpr ⟨h.sl,h.so,h.lo⟩⟩
theorem MH.first (h : MH val T l r o) (hle : Le val r l) : Good val T (r ++ l ++ o):=by
 refine ⟨List.Perm.trans (List.perm_append_comm.append_right _) h.perm,?_⟩
 exact zak.mpr ⟨zak.mpr ⟨h.sr,h.sl,hle⟩,h.so,h.ro.app h.lo⟩
end
section
variable {val : Keyed → Int} {T : List Keyed} {a b out : Array Keyed} {na nb : Nat}
abbrev MB (val : Keyed → Int) (T : List Keyed) (a b out : Array Keyed) (na nb : Nat) : Prop:=MH val T (a.toList.take na) (b.toList.take nb) out.toList.reverse
theorem zg3 {xs : Array Keyed} {n : Nat} {p : Keyed} (h : xs[n]? = some p) : xs.toList.take (n + 1) = xs.toList.take n ++ [p]:=by
 rw [List.take_succ,Array.getElem?_toList,h]
 rfl
theorem zfP {xs : Array Keyed} (h : SIn val xs 0 xs.size) (i : Nat) : Ris val (xs.toList.take i):=by
 have:=zcy h 0
 rw [List.drop_zero] at this
 exact List.Pairwise.sublist (List.take_sublist _ _) this
theorem zdI {xs : Array Keyed} {n : Nat} {p : Keyed} (h : p ∈ xs.toList.take n) : ∃ j,j < n ∧ j < xs.size ∧ xs[j]? = some p:=by
 (obtain ⟨j,hj,e⟩:=List.getElem_of_mem h)
 have hj2 : j < n ∧ j < xs.toList.length:=by
  rw [List.length_take] at hj
  omega
 refine ⟨j,hj2.1,by simpa using hj2.2,?_⟩
 rw [← Array.getElem?_toList,List.getElem?_eq_getElem hj2.2,← e,List.getElem_take]
theorem zdj {xs : Array Keyed} {n : Nat} {p q : Keyed} (h : SIn val xs 0 xs.size) (hp : xs[n]? = some p) (hq : q ∈ xs.toList.take (n + 1)) : val q ≤ val p:=by
 obtain ⟨j,hj,hjs,e⟩:=zdI hq
 have hn:=(Array.getElem?_eq_some_iff.mp hp).1
 have:=h j n (Nat.zero_le _) (by omega) hn
 rw [zJ e,zJ hp] at this
 exact this
theorem MB.pushA {y x : Keyed} (h : MB val T a b out (na + 1) nb) (sb : SIn val b 0 b.size) (hn : 1 ≤ nb) (hy : b[nb - 1]? = some y) (hx : a[na]? = some x) (hle : val y ≤ val x) : MB val T a b (out.push x) na nb:=by
 unfold MB at h ⊢
 rw [zg3 hx] at h
 have:=MH.takeA h fun p hp q hq => by
  rw [List.mem_singleton.mp hq]
  exact Int.le_trans (zdj sb hy (by rw [show nb - 1 + 1 = nb by omega]; exact hp)) hle
 simpa using this
theorem MB.pushB {y x : Keyed} (h : MB val T a b out na (nb + 1)) (sa : SIn val a 0 a.size) (hn : 1 ≤ na) (hy : b[nb]? = some y) (hx : a[na - 1]? = some x) (hle : val x ≤ val y) : MB val T a b (out.push y) na nb:=by
 unfold MB at h ⊢
 rw [zg3 hy] at h
 have:=MH.takeB h fun p hp q hq => by
  rw [List.mem_singleton.mp hq]
  exact Int.le_trans (zdj sa hx (by rw [show na - 1 + 1 = na by omega]; exact hp)) hle
 simpa using this
theorem zg4 (xs : Array Keyed) {i n : Nat} (h : i ≤ n) : xs.toList.take n = xs.toList.take i ++ (xs.extract i n).toList:=by
 rw [Array.toList_extract]
 simp only [List.extract_eq_take_drop]
 rw [← List.take_append_drop i (xs.toList.take n),List.take_take,Nat.min_eq_left h,List.drop_take]
theorem MB.takeA {y : Keyed} {at' : Nat} (h : MB val T a b out na nb) (sb : SIn val b 0 b.size) (hat : at' ≤ na) (hn : 1 ≤ nb) (hy : b[nb - 1]? = some y) (hle : ∀ i,at' ≤ i → i < na → val y ≤ Vk val a i) : MB val T a b (out ++ (a.extract at' na).reverse) at' nb:=by
 unfold MB at h ⊢
 rw [zg4 a hat] at h
 have:=MH.takeA h fun p hp q hq => by
  have hq2 : q ∈ (a.extract at' (at' + (na - at'))).toList:=by rw [show at' + (na - at') = na by omega]; exact hq
  obtain ⟨j,hj,e⟩:=zdh hq2
  have:=hle (at' + j) (by omega) (by omega)
  rw [zJ e] at this
  exact Int.le_trans (zdj sb hy (by rw [show nb - 1 + 1 = nb by omega]; exact hp)) this
 simpa using this
theorem MB.takeB {x : Keyed} {at' : Nat} (h : MB val T a b out na nb) (sa : SIn val a 0 a.size) (hat : at' ≤ nb) (hn : 1 ≤ na) (hx : a[na - 1]? = some x) (hle : ∀ i,at' ≤ i → i < nb → val x ≤ Vk val b i) : MB val T a b (out ++ (b.extract at' nb).reverse) na at':=by
 unfold MB at h ⊢
 rw [zg4 b hat] at h
 have:=MH.takeB h fun p hp q hq => by
  have hq2 : q ∈ (b.extract at' (at' + (nb - at'))).toList:=by rw [show at' + (nb - at') = nb by omega]; exact hq
  obtain ⟨j,hj,e⟩:=zdh hq2
  have:=hle (at' + j) (by omega) (by omega)
  rw [zJ e] at this
  exact Int.le_trans (zdj sa hx (by rw [show na - 1 + 1 = na by omega]; exact hp)) this
 simpa using this
theorem zbu (xs : Array Keyed) (n : Nat) : (xs.extract 0 n).toList = xs.toList.take n:=by
 rw [Array.toList_extract]
 simp [List.extract_eq_take_drop]
theorem MB.doneA (h : MB val T a b out na nb) (e : na = 0) : Good val T (a.extract 0 na ++ b.extract 0 nb ++ out.reverse).toList:=by
 unfold MB at h
 subst e
 have:=MH.doneA h
 rw [Array.toList_append,Array.toList_append,zbu,zbu,List.take_zero,List.nil_append,Array.toList_reverse]
 exact this
theorem MB.doneB (h : MB val T a b out na nb) (e : nb = 0) : Good val T (a.extract 0 na ++ b.extract 0 nb ++ out.reverse).toList:=by
 unfold MB at h
 subst e
 have:=MH.doneB h
 rw [Array.toList_append,Array.toList_append,zbu,zbu,List.take_zero,List.append_nil,Array.toList_reverse]
 exact this
theorem MB.first (h : MB val T a b out na nb) (e : nb = 1) (sa : SIn val a 0 a.size) (h2 : 1 ≤ b.size) (hf : Vk val b 0 ≤ Vk val a 0) : Good val T (b.extract 0 nb ++ a.extract 0 na ++ out.reverse).toList:=by
 unfold MB at h
 subst e
 have:=MH.first h fun p hp q hq => by
  obtain ⟨j,hj,hjs,ej⟩:=zdI hp
  have hj0 : j = 0:=by omega
  subst hj0
  obtain ⟨i,hi,his,ei⟩:=zdI hq
  have:=sa 0 i (Nat.zero_le _) (Nat.zero_le _) his
  rw [zJ ei] at this
  rw [zJ ej] at hf
  omega
 rw [Array.toList_append,Array.toList_append,zbu,zbu,Array.toList_reverse]
 exact this
end
section
variable {prog : Program} {w : World} {A : Around} {E : Value → Shared → Prop} {s : Shared} {a₀ : Array Keyed} {κ : SortKind} {val : Keyed → Int}
theorem zhV {st : SortSt} {a b : Array Keyed} {Q : Array Keyed → SortSt → Prop} (hC : Cmp prog w A s κ val a₀) (hk : kindOf st = κ) (ma : ∀ p ∈ a.toList,p ∈ a₀.toList) (mb : ∀ p ∈ b.toList,p ∈ a₀.toList)
  (sa : SIn val a 0 a.size) (sb : SIn val b 0 b.size) (h1 : 1 ≤ a.size) (h2 : 1 ≤ b.size) (hf : Vk val b 0 ≤ Vk val a 0) (hl : ∀ i,i < b.size → Vk val b i ≤ Vk val a (a.size - 1))
  (h : ∀ out g,Good val (a.toList ++ b.toList) out.toList → Q out (zab st g)) : wpS (model prog w) A E s (zi9 a b) Q st:=by
 refine zeY ?_
 wp_delta
 wp_delta
 refine zeZ ?_
 (refine wpS_bind (wpS_lift (wpAny_rule ⟨rfl,?_⟩)))
 obtain ⟨x0,ex0,mx0⟩:=zah (xs:=a) (i:=a.size - 1) (by omega)
 obtain ⟨y0,ey0,my0⟩:=zah (xs:=b) (i:=b.size - 1) (by omega)
 refine wpS_bind (zH ex0 ?_)
 have I0 : MB val (a.toList ++ b.toList) a b #[] (a.size - 1 + 1) b.size:=by
  refine ⟨?_,List.Pairwise.nil,zfP sa _,zfP sb _,fun x _ y hy => by simp at hy,fun x _ y hy => by simp at hy⟩
  rw [show a.size - 1 + 1 = a.size by omega,List.take_of_length_le (by simp),List.take_of_length_le (by simp)]
  simp
 have I1 : MB val (a.toList ++ b.toList) a b #[x0] (a.size - 1) b.size:=I0.pushA sb h2 ey0 ex0 (by have:=hl (b.size - 1) (by omega); rw [zJ ey0,zJ ex0] at this; exact this)
 dsimp only
 by_cases ha1 : a.size - 1 = 0
 ·rw [if_pos (by simpa using ha1)]
  exact wpS_pure (h _ (gallopOf st) (I1.doneA ha1))
 rw [if_neg (by simpa using ha1)]
 by_cases hb1 : b.size = 1
 ·rw [if_pos (by simpa using hb1)]
  exact wpS_pure (h _ (gallopOf st) (I1.first hb1 sa h2 hf))
 rw [if_neg (by simpa using hb1)]
 refine wpS_bind (wpS_get ?_)
 refine wpS_bind (wpS_mono (wpS_forRange (I:=fun x c st' => ∃ g out na nb mg,st' = zab st g ∧ c = (none,na,nb,out,mg) ∧ MB val (a.toList ++ b.toList) a b out na nb ∧ 1 ≤ na ∧ 2 ≤ nb ∧ na ≤ a.size ∧ nb ≤ b.size ∧ x + na + nb + 1 ≤ a.size + b.size)
  (Q:=fun c st' => ∃ g r o,st' = zab st g ∧ c = (some r,o) ∧ Good val (a.toList ++ b.toList) r.toList) ?step ?fin ⟨gallopOf st,#[x0],a.size - 1,b.size,gallopOf st,rfl,rfl,I1,by omega,by omega,by omega,by omega,by omega⟩) ?post)
 case post =>
  rintro c st' ⟨g,r,o,rfl,rfl,hG⟩
  exact wpS_pure (h _ g hG)
 case fin =>
  rintro c st' ⟨g,out,na,nb,mg,rfl,rfl,hI,b1,b2,b3⟩
  omega
 case step =>
  rintro x c st' _ hx ⟨g,out,na,nb,mg,rfl,rfl,hI,b1,b2,b4,b5,b3⟩
  dsimp only
  refine wpS_bind (wpS_mono (wpS_forRange (I:=fun x c st' => st' = zab st g ∧ ∃ out' na' nb' ac bc,c = (none,na',nb',out',ac,bc) ∧ MB val (a.toList ++ b.toList) a b out' na' nb' ∧ 1 ≤ na' ∧ 2 ≤ nb' ∧ na' ≤ a.size ∧ nb' ≤ b.size ∧ x + na' + nb' ≤ na + nb)
   (Q:=fun c st' => st' = zab st g ∧ ((∃ r o,c = (some r,o) ∧ Good val (a.toList ++ b.toList) r.toList) ∨ ∃ out' na' nb' ac bc,c = (none,na',nb',out',ac,bc) ∧ MB val (a.toList ++ b.toList) a b out' na' nb' ∧ 1 ≤ na' ∧ 2 ≤ nb' ∧ na' ≤ a.size ∧ nb' ≤ b.size ∧ 1 + na' + nb' ≤ na + nb)) ?step1 ?fin1 ⟨rfl,out,na,nb,0,0,rfl,hI,b1,b2,b4,b5,by omega⟩) ?post1)
  case fin1 =>
   rintro c st' ⟨rfl,out',na',nb',ac,bc,rfl,hI,b1,b2,b4,b5,b3⟩
   exact ⟨rfl,.inr ⟨out',na',nb',ac,bc,rfl,hI,b1,b2,b4,b5,by omega⟩⟩
  case step1 =>
   rintro x1 c st' _ hx1 ⟨rfl,out',na',nb',ac,bc,rfl,hI,b1,b2,b4,b5,b3⟩
   dsimp only
   obtain ⟨n1,rfl⟩ : ∃ n1,na' = n1 + 1:=⟨na' - 1,by omega⟩
   obtain ⟨m1,rfl⟩ : ∃ m1,nb' = m1 + 1:=⟨nb' - 1,by omega⟩
   simp only [Nat.add_sub_cancel]
   obtain ⟨y,ey,my⟩:=zah (xs:=b) (i:=m1) (by omega)
   obtain ⟨z,ez,mz⟩:=zah (xs:=a) (i:=n1) (by omega)
   refine wpS_bind (zH ey (wpS_bind (zH ez (wpS_bind (zi5 hC hk (mb y my) (ma z mz) ?_)))))
   dsimp only
   by_cases hyz : val y < val z
   ·rw [if_pos (by simpa using hyz)]
    refine wpS_bind (zH ez ?_)
    have hI2:=hI.pushA sb (by omega) ey ez (by omega)
    by_cases e1 : n1 = 0
    ·rw [if_pos (by simpa using e1)]
     exact wpS_pure ⟨rfl,.inl ⟨_,_,rfl,hI2.doneA e1⟩⟩
    rw [if_neg (by simpa using e1)]
    split
    ·exact wpS_pure ⟨rfl,.inr ⟨_,_,_,_,_,rfl,hI2,by omega,by omega,by omega,by omega,by omega⟩⟩
    ·exact wpS_pure ⟨rfl,_,_,_,_,_,rfl,hI2,by omega,by omega,by omega,by omega,by omega⟩
   ·rw [if_neg (by simpa using hyz)]
    refine wpS_bind (zH ey ?_)
    have hI2:=hI.pushB sa (by omega) ey ez (by omega)
    by_cases e1 : m1 = 1
    ·rw [if_pos (by simpa using e1)]
     exact wpS_pure ⟨rfl,.inl ⟨_,_,rfl,hI2.first e1 sa h2 hf⟩⟩
    rw [if_neg (by simpa using e1)]
    split
    ·exact wpS_pure ⟨rfl,.inr ⟨_,_,_,_,_,rfl,hI2,by omega,by omega,by omega,by omega,by omega⟩⟩
    ·exact wpS_pure ⟨rfl,_,_,_,_,_,rfl,hI2,by omega,by omega,by omega,by omega,by omega⟩
  case post1 =>
   rintro c st' ⟨rfl,hc⟩
   rcases hc with ⟨r,o,rfl,hG⟩ | ⟨out1,na1,nb1,ac1,bc1,rfl,hI1,c1,c2,c4,c5,c3⟩
   ·exact wpS_pure ⟨g,r,_,rfl,rfl,hG⟩
   dsimp only
   (refine wpS_bind (wpS_lift (wpAny_rule ⟨rfl,?_⟩)))
   refine wpS_bind (wpS_mono (wpS_forRange (I:=fun x c st' => ∃ g out' na' nb' mg ac bc,st' = zab st g ∧ c = (none,na',nb',out',mg,ac,bc) ∧ MB val (a.toList ++ b.toList) a b out' na' nb' ∧ 1 ≤ na' ∧ 2 ≤ nb' ∧ na' ≤ a.size ∧ nb' ≤ b.size ∧ na' + nb' ≤ na1 + nb1)
    (Q:=fun c st' => ∃ g,st' = zab st g ∧ ((∃ r o,c = (some r,o) ∧ Good val (a.toList ++ b.toList) r.toList) ∨ ∃ out' na' nb' mg ac bc,c = (none,na',nb',out',mg,ac,bc) ∧ MB val (a.toList ++ b.toList) a b out' na' nb' ∧ 1 ≤ na' ∧ 2 ≤ nb' ∧ na' ≤ a.size ∧ nb' ≤ b.size ∧ na' + nb' ≤ na1 + nb1)) ?step2 ?fin2 ⟨g,out1,na1,nb1,_,ac1,bc1,rfl,rfl,hI1,c1,c2,c4,c5,Nat.le_refl _⟩) ?post2)
   case fin2 =>
    rintro c st' ⟨g,out',na',nb',mg,ac,bc,rfl,rfl,hI,b1,b2,b4,b5,b3⟩
    exact ⟨g,rfl,.inr ⟨out',na',nb',mg,ac,bc,rfl,hI,b1,b2,b4,b5,b3⟩⟩
   case post2 =>
    rintro c st' ⟨g,rfl,hc⟩
    rcases hc with ⟨r,o,rfl,hG⟩ | ⟨out2,na2,nb2,mg2,ac2,bc2,rfl,hI2,d1,d2,d4,d5,d3⟩
    ·exact wpS_pure ⟨g,r,_,rfl,rfl,hG⟩
    dsimp only
    refine wpS_bind (zcz (wpS_pure ⟨_,out2,na2,nb2,_,rfl,rfl,hI2,d1,d2,d4,d5,by omega⟩))
   case step2 =>
    rintro x2 c st' _ hx2 ⟨g,out',na',nb',mg',ac,bc,rfl,rfl,hI,b1,b2,b4,b5,b3⟩
    dsimp only
    obtain ⟨m1,rfl⟩ : ∃ m1,nb' = m1 + 1:=⟨nb' - 1,by omega⟩
    simp only [Nat.add_sub_cancel]
    obtain ⟨y,ey,my⟩:=zah (xs:=b) (i:=m1) (by omega)
    by_cases hmg : mg' > 1
    all_goals
     first
      | rw [if_pos hmg]
      | rw [if_neg hmg]
     refine wpS_bind (zcz (wpS_bind (zH ey (wpS_bind (za3 hC hk (mb y my) (fun i hi => (by
      obtain ⟨p,ep,mp⟩:=zah (xs:=a) (i:=0 + i) (by omega)
      exact ⟨p,ep,ma p mp⟩)) (sa.sub (by omega) (by omega)) (by omega) fun k hk1 hk2 hk3 => ?_)))))
     dsimp only
     have hI2:=hI.takeA (at':=k) sb hk1 (by omega) ey fun i h1 h2 => Int.le_of_lt (by have:=zdi (hk3 i h1 h2); rwa [Nat.zero_add] at this)
     by_cases hk0 : na' - k > 0
     ·rw [if_pos hk0]
      by_cases e1 : k = 0
      ·rw [if_pos (by simpa using e1)]
       exact wpS_pure ⟨_,rfl,.inl ⟨_,_,rfl,hI2.doneA e1⟩⟩
      rw [if_neg (by simpa using e1)]
      obtain ⟨n1,rfl⟩ : ∃ n1,k = n1 + 1:=⟨k - 1,by omega⟩
      simp only [Nat.add_sub_cancel]
      refine wpS_bind (zH ey ?_)
      obtain ⟨z,ez,mz⟩:=zah (xs:=a) (i:=n1) (by omega)
      have hI3:=hI2.pushB sa (by omega) ey (show a[n1 + 1 - 1]? = some z by rw [Nat.add_sub_cancel]; exact ez) (by have:=zcA (hk2 n1 (by omega)); rw [Nat.zero_add,zJ ez] at this; exact this)
      by_cases e3 : m1 = 1
      ·rw [if_pos (by simpa using e3)]
       exact wpS_pure ⟨_,rfl,.inl ⟨_,_,rfl,hI3.first e3 sa h2 hf⟩⟩
      rw [if_neg (by simpa using e3)]
      refine wpS_bind (zH ez (wpS_bind (za3 hC hk (ma z mz) (fun i hi => (by
       obtain ⟨p,ep,mp⟩:=zah (xs:=b) (i:=0 + i) (by omega)
       exact ⟨p,ep,mb p mp⟩)) (sb.sub (by omega) (by omega)) (by omega) fun j hj1 hj2 hj3 => ?_)))
      dsimp only
      have hI4:=hI3.takeB (at':=j) sa hj1 (by omega) (show a[n1 + 1 - 1]? = some z by rw [Nat.add_sub_cancel]; exact ez) fun i h1 h2 => (by have:=zco (hj3 i h1 h2); rwa [Nat.zero_add] at this)
      by_cases hj0 : m1 - j > 0
      ·rw [if_pos hj0]
       by_cases e4 : j = 1
       ·rw [if_pos (by simpa using e4)]
        exact wpS_pure ⟨_,rfl,.inl ⟨_,_,rfl,hI4.first e4 sa h2 hf⟩⟩
       rw [if_neg (by simpa using e4)]
       by_cases e5 : j = 0
       ·rw [if_pos (by simpa using e5)]
        exact wpS_pure ⟨_,rfl,.inl ⟨_,_,rfl,hI4.doneB e5⟩⟩
       rw [if_neg (by simpa using e5)]
       obtain ⟨y2,ey2,my2⟩:=zah (xs:=b) (i:=j - 1) (by omega)
       refine wpS_bind (zH ez ?_)
       have hIc:=hI4.pushA sb (by omega) ey2 ez (by have:=zbH (hj2 (j - 1) (by omega)); rw [Nat.zero_add,zJ ey2] at this; omega)
       by_cases e9 : n1 = 0
       ·rw [if_pos (by simpa using e9)]
        exact wpS_pure ⟨_,rfl,.inl ⟨_,_,rfl,hIc.doneA e9⟩⟩
       rw [if_neg (by simpa using e9)]
       split
       ·exact wpS_pure ⟨_,rfl,.inr ⟨_,_,_,_,_,_,rfl,hIc,by omega,by omega,by omega,by omega,by omega⟩⟩
       ·exact wpS_pure ⟨_,_,_,_,_,_,_,rfl,rfl,hIc,by omega,by omega,by omega,by omega,by omega⟩
      ·rw [if_neg hj0]
       have hjm : j = m1:=by omega
       subst hjm
       obtain ⟨y2,ey2,my2⟩:=zah (xs:=b) (i:=j - 1) (by omega)
       refine wpS_bind (zH ez ?_)
       have hIc:=hI3.pushA sb (by omega) ey2 ez (by have:=zbH (hj2 (j - 1) (by omega)); rw [Nat.zero_add,zJ ey2] at this; omega)
       by_cases e9 : n1 = 0
       ·rw [if_pos (by simpa using e9)]
        exact wpS_pure ⟨_,rfl,.inl ⟨_,_,rfl,hIc.doneA e9⟩⟩
       rw [if_neg (by simpa using e9)]
       split
       ·exact wpS_pure ⟨_,rfl,.inr ⟨_,_,_,_,_,_,rfl,hIc,by omega,by omega,by omega,by omega,by omega⟩⟩
       ·exact wpS_pure ⟨_,_,_,_,_,_,_,rfl,rfl,hIc,by omega,by omega,by omega,by omega,by omega⟩
     ·rw [if_neg hk0]
      have hkn : k = na':=by omega
      subst hkn
      obtain ⟨n1,rfl⟩ : ∃ n1,k = n1 + 1:=⟨k - 1,by omega⟩
      simp only [Nat.add_sub_cancel]
      refine wpS_bind (zH ey ?_)
      obtain ⟨z,ez,mz⟩:=zah (xs:=a) (i:=n1) (by omega)
      have hI3:=hI.pushB sa (by omega) ey (show a[n1 + 1 - 1]? = some z by rw [Nat.add_sub_cancel]; exact ez) (by have:=zcA (hk2 n1 (by omega)); rw [Nat.zero_add,zJ ez] at this; exact this)
      by_cases e3 : m1 = 1
      ·rw [if_pos (by simpa using e3)]
       exact wpS_pure ⟨_,rfl,.inl ⟨_,_,rfl,hI3.first e3 sa h2 hf⟩⟩
      rw [if_neg (by simpa using e3)]
      refine wpS_bind (zH ez (wpS_bind (za3 hC hk (ma z mz) (fun i hi => (by
       obtain ⟨p,ep,mp⟩:=zah (xs:=b) (i:=0 + i) (by omega)
       exact ⟨p,ep,mb p mp⟩)) (sb.sub (by omega) (by omega)) (by omega) fun j hj1 hj2 hj3 => ?_)))
      dsimp only
      have hI4:=hI3.takeB (at':=j) sa hj1 (by omega) (show a[n1 + 1 - 1]? = some z by rw [Nat.add_sub_cancel]; exact ez) fun i h1 h2 => (by have:=zco (hj3 i h1 h2); rwa [Nat.zero_add] at this)
      by_cases hj0 : m1 - j > 0
      ·rw [if_pos hj0]
       by_cases e4 : j = 1
       ·rw [if_pos (by simpa using e4)]
        exact wpS_pure ⟨_,rfl,.inl ⟨_,_,rfl,hI4.first e4 sa h2 hf⟩⟩
       rw [if_neg (by simpa using e4)]
       by_cases e5 : j = 0
       ·rw [if_pos (by simpa using e5)]
        exact wpS_pure ⟨_,rfl,.inl ⟨_,_,rfl,hI4.doneB e5⟩⟩
       rw [if_neg (by simpa using e5)]
       obtain ⟨y2,ey2,my2⟩:=zah (xs:=b) (i:=j - 1) (by omega)
       refine wpS_bind (zH ez ?_)
       have hIc:=hI4.pushA sb (by omega) ey2 ez (by have:=zbH (hj2 (j - 1) (by omega)); rw [Nat.zero_add,zJ ey2] at this; omega)
       by_cases e9 : n1 = 0
       ·rw [if_pos (by simpa using e9)]
        exact wpS_pure ⟨_,rfl,.inl ⟨_,_,rfl,hIc.doneA e9⟩⟩
       rw [if_neg (by simpa using e9)]
       split
       ·exact wpS_pure ⟨_,rfl,.inr ⟨_,_,_,_,_,_,rfl,hIc,by omega,by omega,by omega,by omega,by omega⟩⟩
       ·exact wpS_pure ⟨_,_,_,_,_,_,_,rfl,rfl,hIc,by omega,by omega,by omega,by omega,by omega⟩
      ·rw [if_neg hj0]
       have hjm : j = m1:=by omega
       subst hjm
       obtain ⟨y2,ey2,my2⟩:=zah (xs:=b) (i:=j - 1) (by omega)
       refine wpS_bind (zH ez ?_)
       have hIc:=hI3.pushA sb (by omega) ey2 ez (by have:=zbH (hj2 (j - 1) (by omega)); rw [Nat.zero_add,zJ ey2] at this; omega)
       by_cases e9 : n1 = 0
       ·rw [if_pos (by simpa using e9)]
        exact wpS_pure ⟨_,rfl,.inl ⟨_,_,rfl,hIc.doneA e9⟩⟩
       rw [if_neg (by simpa using e9)]
       split
       ·exact wpS_pure ⟨_,rfl,.inr ⟨_,_,_,_,_,_,rfl,hIc,by omega,by omega,by omega,by omega,by omega⟩⟩
       ·exact wpS_pure ⟨_,_,_,_,_,_,_,rfl,rfl,hIc,by omega,by omega,by omega,by omega,by omega⟩
end
end Srt
end
section
set_option maxHeartbeats 3995000
namespace Srt
open PySem PyProof.Rows
def wb (sa : Nat) (l : List (Keyed × Nat)) (xs : Array Keyed) : Array Keyed:=l.foldl (fun a (p,j) => a.setIfInBounds (sa + j) p) xs
theorem zjc (sa : Nat) : ∀ (l : List Keyed) (n : Nat) (xs : Array Keyed) (k : Nat),sa + n + l.length ≤ xs.size → (wb sa (l.zipIdx n) xs)[k]? = if sa + n ≤ k ∧ k < sa + n + l.length then l[k - (sa + n)]? else xs[k]?
 | [],n,xs,k,h => by
  rw [if_neg (by simp only [List.length_nil]; omega)]
  rfl
 | p :: l,n,xs,k,h => by
  have hl : (p :: l).length = l.length + 1:=rfl
  rw [hl] at h ⊢
  show (wb sa (l.zipIdx (n + 1)) (xs.setIfInBounds (sa + n) p))[k]? = _
  rw [zjc sa l (n + 1) _ k (by rw [Array.size_setIfInBounds]; omega)]
  by_cases h1 : sa + (n + 1) ≤ k ∧ k < sa + (n + 1) + l.length
  ·rw [if_pos h1,if_pos (by omega),show k - (sa + n) = k - (sa + (n + 1)) + 1 by omega,List.getElem?_cons_succ]
  ·rw [if_neg h1,Array.getElem?_setIfInBounds]
   by_cases h2 : sa + n = k
   ·rw [if_pos h2,if_pos (by omega),if_pos (by omega),show k - (sa + n) = 0 by omega]
    rfl
   ·rw [if_neg h2,if_neg (by omega)]
theorem zj4 {sa : Nat} {m xs : Array Keyed} (h : sa + m.size ≤ xs.size) : (wb sa m.toList.zipIdx xs).toList = xs.toList.take sa ++ m.toList ++ xs.toList.drop (sa + m.size):=by
 have hm : m.toList.length = m.size:=by simp
 have hx : xs.toList.length = xs.size:=by simp
 refine List.ext_getElem? fun k => ?_
 rw [Array.getElem?_toList,zjc sa m.toList 0 xs k (by rw [hm]; omega),hm,Nat.add_zero]
 by_cases h1 : k < sa
 ·rw [if_neg (by omega),List.append_assoc,List.getElem?_append_left (by rw [List.length_take]; omega),List.getElem?_take_of_lt h1,Array.getElem?_toList]
 ·by_cases h2 : k < sa + m.size
  ·rw [if_pos (by omega),List.append_assoc,List.getElem?_append_right (by rw [List.length_take]; omega),List.length_take,hx,show min sa xs.size = sa by omega,List.getElem?_append_left (by omega)]
  ·rw [if_neg (by omega),List.getElem?_append_right (by rw [List.length_append,List.length_take]; omega),List.length_append,List.length_take,hx,show min sa xs.size = sa by omega,hm,List.getElem?_drop,show sa + m.size + (k - (sa + m.size)) = k by omega,Array.getElem?_toList]
theorem zhW (xs : List Keyed) {i j k : Nat} (h1 : i ≤ j) (h2 : j ≤ k) : xs = xs.take i ++ ((xs.drop i).take (j - i) ++ (xs.drop j).take (k - j)) ++ xs.drop k:=by
 have e1 : xs.drop i = (xs.drop i).take (j - i) ++ xs.drop j:=by
  have:=(List.take_append_drop (j - i) (xs.drop i)).symm
  rwa [List.drop_drop,show i + (j - i) = j by omega] at this
 have e2 : xs.drop j = (xs.drop j).take (k - j) ++ xs.drop k:=by
  have:=(List.take_append_drop (k - j) (xs.drop j)).symm
  rwa [List.drop_drop,show j + (k - j) = k by omega] at this
 have e0:=(List.take_append_drop i xs).symm
 rw [e1,e2] at e0
 rw [List.append_assoc,List.append_assoc]
 exact e0
theorem zcB (xs : Array Keyed) (i j : Nat) : (xs.extract i j).toList = (xs.toList.drop i).take (j - i):=by
 rw [Array.toList_extract]
theorem zj5 {sa sb e : Nat} {m xs : Array Keyed} (h1 : sa ≤ sb) (h2 : sb ≤ e) (h3 : e ≤ xs.size) (hp : m.toList.Perm ((xs.extract sa sb).toList ++ (xs.extract sb e).toList)) : (wb sa m.toList.zipIdx xs).Perm xs:=by
 have hms : m.size = e - sa:=by
  have:=hp.length_eq
  rw [List.length_append,zcB,zcB,List.length_take,List.length_take,List.length_drop,List.length_drop] at this
  have hx : xs.toList.length = xs.size:=by simp
  have hm : m.toList.length = m.size:=by simp
  omega
 rw [Array.perm_iff_toList_perm,zj4 (by omega),show sa + m.size = e by omega]
 refine List.Perm.trans ((hp.append_left _).append_right _) ?_
 rw [zcB,zcB,← zhW xs.toList h1 h2]
section
variable {prog : Program} {w : World} {A : Around} {E : Value → Shared → Prop} {s : Shared} {a₀ : Array Keyed} {κ : SortKind} {val : Keyed → Int}
theorem zcp {xs : Array Keyed} {i j k : Nat} (h : k < j - i) (hj : j ≤ xs.size) : (xs.extract i j)[k]? = xs[i + k]?:=by
 rw [← Array.getElem?_toList,zcB,List.getElem?_take_of_lt h,List.getElem?_drop,Array.getElem?_toList]
theorem zcC {xs : Array Keyed} {i j : Nat} (hj : j ≤ xs.size) : (xs.extract i j).size = j - i:=by rw [Array.size_extract,Nat.min_eq_left hj]
theorem zg5 {xs : Array Keyed} {i j : Nat} (hj : j ≤ xs.size) (h : SIn val xs i j) : SIn val (xs.extract i j) 0 (xs.extract i j).size:=by
 rw [zcC hj]
 intro p q _ hpq hq
 rw [zS (zcp (by omega) hj),zS (zcp hq hj)]
 exact h _ _ (by omega) (by omega) (by omega)
theorem zdk {xs : Array Keyed} {i j : Nat} (hj : j ≤ xs.size) {p : Keyed} (h : p ∈ (xs.extract i j).toList) : ∃ k,i ≤ k ∧ k < j ∧ xs[k]? = some p:=by
 obtain ⟨k,hk,e⟩:=List.getElem_of_mem h
 have hk' : k < j - i:=by
  rwa [Array.length_toList,zcC hj] at hk
 refine ⟨i + k,by omega,by omega,?_⟩
 rw [← zcp hk' hj,← Array.getElem?_toList,List.getElem?_eq_getElem hk,e]
theorem zhX {st : SortSt} {i sa na pw sb nb pw2 : Nat} {Q : Bool → SortSt → Prop} (hC : Cmp prog w A s κ val a₀) (hB : SB κ a₀ st) (e1 : (pendingOf st)[i]? = some (sa,na,pw)) (e2 : (pendingOf st)[i + 1]? = some (sb,nb,pw2))
  (hsb : sb = sa + na) (hna : 1 ≤ na) (hnb : 1 ≤ nb) (hsz : sb + nb ≤ a₀.size) (sA : SIn val (arrOf st) sa (sa + na)) (sB : SIn val (arrOf st) sb (sb + nb))
  (h : ∀ st',SB κ a₀ st' → pendingOf st' = ((pendingOf st).setIfInBounds i (sa,na + nb,pw)).eraseIdxIfInBounds (i + 1) → (∀ k,(k < sa ∨ sb + nb ≤ k) → (arrOf st')[k]? = (arrOf st)[k]?) → SIn val (arrOf st') sa (sb + nb) → Q true st') :
  wpS (model prog w) A E s (mergeAt' i) Q st:=by
 refine zeY ?_
 wp_delta
 wp_delta
 refine zeZ ?_
 refine wpS_bind (wpS_get ?_)
 rw [e1,e2]
 dsimp only
 have hsize:=hB.size
 obtain ⟨y0,ey0,my0⟩:=hB.mem (i:=sb) (by omega)
 generalize hst1 : (sortPriv% PySem.Builtin.SortState.mk) (kindOf st) (arrOf st) (((pendingOf st).setIfInBounds i (sa,na + nb,pw)).eraseIdxIfInBounds (i + 1)) (gallopOf st) (failedOf st) = st1
 have hB1 : SB κ a₀ st1:=by subst hst1; exact ⟨hB.perm,hB.kind,hB.failed⟩
 have hp1 : pendingOf st1 = ((pendingOf st).setIfInBounds i (sa,na + nb,pw)).eraseIdxIfInBounds (i + 1):=by subst hst1; rfl
 have ha1 : arrOf st1 = arrOf st:=by subst hst1; rfl
 have memA : ∀ n,n < a₀.size → ∃ p,(arrOf st)[n]? = some p ∧ p ∈ a₀.toList:=fun n hn => hB.mem hn
 refine wpS_bind (show wpS _ _ _ _ (set st1) _ st from wpS_modify (f:=fun _ => st1) ?_)
 refine wpS_bind (zH ey0 (wpS_bind (za3 (arr:=arrOf st) hC hB1.kind my0 (fun j hj => memA (sa + j) (by omega)) sA (by omega) fun k hk1 hk2 hk3 => ?_)))
 dsimp only
 have lowA : ∀ j,sa ≤ j → j < sa + k → Vk val (arrOf st) j ≤ Vk val (arrOf st) sb:=fun j h1 h2 => by
  have:=zcA (hk2 (j - sa) (by omega))
  rwa [show sa + (j - sa) = j by omega,← zJ (val:=val) ey0] at this
 by_cases hk0 : na - k = 0
 ·rw [if_pos (by simpa using hk0)]
  refine wpS_pure (h st1 hB1 hp1 (fun _ _ => by rw [ha1]) ?_)
  rw [ha1]
  intro p q h1 h2 h3
  by_cases hq : q < sa + na
  ·exact sA p q h1 h2 hq
  ·by_cases hp : p < sa + na
   ·exact Int.le_trans (lowA p h1 (by omega)) (sB sb q (by omega) (by omega) h3)
   ·exact sB p q (by omega) h2 h3
 rw [if_neg (by simpa using hk0)]
 have elast : sa + k + (na - k) - 1 = sa + na - 1:=by omega
 rw [elast]
 obtain ⟨x0,ex0,mx0⟩:=hB.mem (i:=sa + na - 1) (by omega)
 refine wpS_bind (zH ex0 (wpS_bind (za3 (arr:=arrOf st) hC hB1.kind mx0 (fun j hj => memA (sb + j) (by omega)) sB (by omega) fun m hm1 hm2 hm3 => ?_)))
 dsimp only
 have highB : ∀ j,sb + m ≤ j → j < sb + nb → Vk val (arrOf st) (sa + na - 1) ≤ Vk val (arrOf st) j:=fun j h1 h2 => by
  have:=zco (hm3 (j - sb) (by omega) (by omega))
  rwa [show sb + (j - sb) = j by omega,← zJ (val:=val) ex0] at this
 have lowB : ∀ j,sb ≤ j → j < sb + m → Vk val (arrOf st) j < Vk val (arrOf st) (sa + na - 1):=fun j h1 h2 => by
  have:=zbH (hm2 (j - sb) (by omega))
  rwa [show sb + (j - sb) = j by omega,← zJ (val:=val) ex0] at this
 by_cases hm0 : m = 0
 ·rw [if_pos (by simpa using hm0)]
  refine wpS_pure (h st1 hB1 hp1 (fun _ _ => by rw [ha1]) ?_)
  rw [ha1]
  intro p q h1 h2 h3
  by_cases hq : q < sa + na
  ·exact sA p q h1 h2 hq
  ·by_cases hp : p < sa + na
   ·exact Int.le_trans (sA p (sa + na - 1) h1 (by omega) (by omega)) (highB q (by omega) h3)
   ·exact sB p q (by omega) h2 h3
 rw [if_neg (by simpa using hm0)]
 have zx : (arrOf st).size = a₀.size:=hsize
 have z1:=zcC (xs:=arrOf st) (i:=sa + k) (j:=sb) (by omega)
 have z2:=zcC (xs:=arrOf st) (i:=sb) (j:=sb + m) (by omega)
 have hf : Vk val ((arrOf st).extract sb (sb + m)) 0 ≤ Vk val ((arrOf st).extract (sa + k) sb) 0:=by
  rw [zS (zcp (by omega) (by omega)),zS (zcp (xs:=arrOf st) (i:=sa + k) (j:=sb) (k:=0) (by omega) (by omega))]
  have:=zdi (hk3 k (Nat.le_refl _) (by omega))
  rw [← zJ (val:=val) ey0] at this
  simp only [Nat.add_zero] at this ⊢
  omega
 have hl : ∀ j,j < ((arrOf st).extract sb (sb + m)).size → Vk val ((arrOf st).extract sb (sb + m)) j ≤ Vk val ((arrOf st).extract (sa + k) sb) (((arrOf st).extract (sa + k) sb).size - 1):=by
  intro j hj
  rw [z2] at hj
  rw [z1,zS (zcp (by omega) (by omega)),zS (zcp (xs:=arrOf st) (i:=sa + k) (j:=sb) (by omega) (by omega))]
  have:=lowB (sb + j) (by omega) (by omega)
  rw [show sa + k + (sb - (sa + k) - 1) = sa + na - 1 by omega]
  omega
 have fin : ∀ (out : Array Keyed) (g : Nat),Good val (((arrOf st).extract (sa + k) sb).toList ++ ((arrOf st).extract sb (sb + m)).toList) out.toList →
   wpS (model prog w) A E s (do
    modify fun s => setArr s (out.toList.zipIdx.foldl (fun a (p,j) => a.setIfInBounds (sa + k + j) p) (arrOf s))
    let s' ← get
    pure (failedOf s').isNone) Q (zab st1 g):=by
  intro out g hG
  refine wpS_bind (wpS_modify (wpS_bind (wpS_get ?_)))
  have hms : out.size = sb + m - (sa + k):=by
   have:=hG.1.length_eq
   rw [List.length_append] at this
   have e1 : out.toList.length = out.size:=by simp
   have e2 : ((arrOf st).extract (sa + k) sb).toList.length = sb - (sa + k):=by rw [Array.length_toList,z1]
   have e3 : ((arrOf st).extract sb (sb + m)).toList.length = sb + m - sb:=by rw [Array.length_toList,z2]
   omega
  have hperm:=zj5 (xs:=arrOf st) (sa:=sa + k) (sb:=sb) (e:=sb + m) (by omega) (by omega) (by omega) hG.1
  have hat : ∀ n,(wb (sa + k) out.toList.zipIdx (arrOf st))[n]? = if sa + k ≤ n ∧ n < sb + m then out[n - (sa + k)]? else (arrOf st)[n]?:=fun n => by
   have:=zjc (sa + k) out.toList 0 (arrOf st) n (by rw [Array.length_toList]; omega)
   rw [Array.length_toList,Nat.add_zero,hms,show sa + k + (sb + m - (sa + k)) = sb + m by omega,Array.getElem?_toList] at this
   exact this
  have hfn : (failedOf (setArr (zab st1 g) (wb (sa + k) out.toList.zipIdx (arrOf st)))).isNone = true:=by
   show (failedOf st1).isNone = true
   rw [hB1.failed]
   rfl
  have harr : arrOf (zab st1 g) = arrOf st:=ha1
  show wpS _ _ _ _ (pure (failedOf (setArr (zab st1 g) (wb (sa + k) out.toList.zipIdx (arrOf (zab st1 g))))).isNone) Q (setArr (zab st1 g) (wb (sa + k) out.toList.zipIdx (arrOf (zab st1 g))))
  rw [harr,hfn]
  refine wpS_pure (h _ ⟨hperm.trans hB.perm,hB1.kind,hB1.failed⟩ hp1 (fun n hn => ?_) ?_)
  ·show (wb (sa + k) out.toList.zipIdx (arrOf st))[n]? = _
   rw [hat,if_neg (by omega)]
  ·show SIn val (wb (sa + k) out.toList.zipIdx (arrOf st)) sa (sb + nb)
   have hin : ∀ n,sa + k ≤ n → n < sb + m → ∃ q,sa + k ≤ q ∧ q < sb + m ∧ Vk val (wb (sa + k) out.toList.zipIdx (arrOf st)) n = Vk val (arrOf st) q:=fun n h1 h2 => by
    have ho : n - (sa + k) < out.size:=by omega
    have ho2 : out[n - (sa + k)]? = some out[n - (sa + k)]:=getElem?_pos out _ ho
    have hmem : out[n - (sa + k)] ∈ ((arrOf st).extract (sa + k) sb).toList ++ ((arrOf st).extract sb (sb + m)).toList:=hG.1.mem_iff.mp (by simp)
    have hv : Vk val (wb (sa + k) out.toList.zipIdx (arrOf st)) n = val out[n - (sa + k)]:=zJ (by rw [hat,if_pos ⟨h1,h2⟩,ho2])
    rcases List.mem_append.mp hmem with hmem | hmem
    ·obtain ⟨q,q1,q2,q3⟩:=zdk (by omega) hmem
     exact ⟨q,q1,by omega,by rw [hv,zJ q3]⟩
    ·obtain ⟨q,q1,q2,q3⟩:=zdk (by omega) hmem
     exact ⟨q,by omega,q2,by rw [hv,zJ q3]⟩
   have hout : ∀ n,¬ (sa + k ≤ n ∧ n < sb + m) → Vk val (wb (sa + k) out.toList.zipIdx (arrOf st)) n = Vk val (arrOf st) n:=fun n hn => zS (by rw [hat,if_neg hn])
   intro p q h1 h2 h3
   by_cases hp : p < sa + k
   ·rw [hout p (by omega)]
    by_cases hq : q < sa + k
    ·rw [hout q (by omega)]
     exact sA p q h1 h2 (by omega)
    ·have key : ∀ q',sa + k ≤ q' → q' < sb + nb → Vk val (arrOf st) p ≤ Vk val (arrOf st) q':=fun q' a1 a2 => by
      by_cases hq' : q' < sb
      ·exact sA p q' h1 (by omega) (by omega)
      ·exact Int.le_trans (lowA p h1 hp) (sB sb q' (by omega) (by omega) a2)
     by_cases hq2 : q < sb + m
     ·obtain ⟨q',q1,q2,q3⟩:=hin q (by omega) hq2
      rw [q3]
      exact key q' q1 (by omega)
     ·rw [hout q (by omega)]
      exact key q (by omega) h3
   ·by_cases hp2 : p < sb + m
    ·by_cases hq2 : q < sb + m
     ·have ho1 : p - (sa + k) < out.size:=by omega
      have ho2 : q - (sa + k) < out.size:=by omega
      rw [zJ (p:=out[p - (sa + k)]) (by rw [hat,if_pos (by omega)]; exact getElem?_pos out _ ho1),zJ (p:=out[q - (sa + k)]) (by rw [hat,if_pos (by omega)]; exact getElem?_pos out _ ho2)]
      by_cases hpq : p = q
      ·subst hpq
       exact Int.le_refl _
      ·have:=List.pairwise_iff_getElem.mp hG.2 (p - (sa + k)) (q - (sa + k)) (by simpa using ho1) (by simpa using ho2) (by omega)
       simpa using this
     ·obtain ⟨p',p1,p2,p3⟩:=hin p (by omega) hp2
      rw [p3,hout q (by omega)]
      by_cases hp' : p' < sb
      ·exact Int.le_trans (sA p' (sa + na - 1) (by omega) (by omega) (by omega)) (highB q (by omega) h3)
      ·exact sB p' q (by omega) (by omega) h3
    ·rw [hout p (by omega),hout q (by omega)]
     exact sB p q (by omega) h2 h3
 have ma : ∀ p ∈ ((arrOf st).extract (sa + k) sb).toList,p ∈ a₀.toList:=fun p hp => by
  obtain ⟨q,q1,q2,q3⟩:=zdk (by omega) hp
  obtain ⟨p',e,m'⟩:=memA q (by omega)
  rw [q3] at e
  cases e
  exact m'
 have mb : ∀ p ∈ ((arrOf st).extract sb (sb + m)).toList,p ∈ a₀.toList:=fun p hp => by
  obtain ⟨q,q1,q2,q3⟩:=zdk (by omega) hp
  obtain ⟨p',e,m'⟩:=memA q (by omega)
  rw [q3] at e
  cases e
  exact m'
 have ss1:=zg5 (val:=val) (xs:=arrOf st) (i:=sa + k) (j:=sb) (by omega) (sA.sub (by omega) (by omega))
 have ss2:=zg5 (val:=val) (xs:=arrOf st) (i:=sb) (j:=sb + m) (by omega) (sB.sub (by omega) (by omega))
 by_cases hle : na - k ≤ m
 ·rw [if_pos hle]
  exact wpS_bind (zhU (a:=(arrOf st).extract (sa + k) sb) (b:=(arrOf st).extract sb (sb + m)) hC hB1.kind ma mb ss1 ss2 (by omega) (by omega) hf hl fin)
 ·rw [if_neg hle]
  exact wpS_bind (zhV (a:=(arrOf st).extract (sa + k) sb) (b:=(arrOf st).extract sb (sb + m)) hC hB1.kind ma mb ss1 ss2 (by omega) (by omega) hf hl fin)
end
end Srt
end
section
set_option maxHeartbeats 3995000
namespace Srt
open PySem PyProof.Rows
def Runs (val : Keyed → Int) (xs : Array Keyed) : List (Nat × Nat × Nat) → Nat → Nat → Prop
 | [],lo,hi => lo = hi
 | (s,n,_) :: r,lo,hi => s = lo ∧ 1 ≤ n ∧ SIn val xs lo (lo + n) ∧ Runs val xs r (lo + n) hi
section
variable {val : Keyed → Int}
theorem Runs.le {xs : Array Keyed} : ∀ {p : List (Nat × Nat × Nat)} {lo hi : Nat},Runs val xs p lo hi → lo + p.length ≤ hi
 | [],lo,hi,h => by
  have h : lo = hi:=h
  simp only [List.length_nil]
  omega
 | (s,n,w) :: r,lo,hi,h => by
  obtain ⟨_,h1,_,h2⟩:=h
  have:=h2.le
  simp only [List.length_cons]
  omega
theorem Runs.append {xs : Array Keyed} : ∀ {p q : List (Nat × Nat × Nat)} {lo hi : Nat},Runs val xs (p ++ q) lo hi ↔ ∃ mid,Runs val xs p lo mid ∧ Runs val xs q mid hi
 | [],q,lo,hi => ⟨fun h => ⟨lo,rfl,h⟩,fun ⟨mid,h1,h2⟩ => by
   have h1 : lo = mid:=h1
   subst h1
   exact h2⟩
 | (s,n,w) :: p,q,lo,hi => by
  constructor
  ·rintro ⟨h1,h2,h3,h4⟩
   obtain ⟨mid,h5,h6⟩:=Runs.append.mp h4
   exact ⟨mid,⟨h1,h2,h3,h5⟩,h6⟩
  ·rintro ⟨mid,⟨h1,h2,h3,h5⟩,h6⟩
   exact ⟨h1,h2,h3,Runs.append.mpr ⟨mid,h5,h6⟩⟩
theorem Runs.keep {xs ys : Array Keyed} : ∀ {p : List (Nat × Nat × Nat)} {lo hi : Nat},Runs val xs p lo hi → (∀ k,lo ≤ k → k < hi → ys[k]? = xs[k]?) → Runs val ys p lo hi
 | [],lo,hi,h,_ => h
 | (s,n,w) :: p,lo,hi,h,e => by
  obtain ⟨h1,h2,h3,h4⟩:=h
  have:=h4.le
  refine ⟨h1,h2,fun i j a b c => ?_,h4.keep fun k a b => e k (by omega) b⟩
  rw [zS (e i (by omega) (by omega)),zS (e j (by omega) (by omega))]
  exact h3 i j a b c
theorem zjd {α : Type} (p q : List α) (x y v : α) : ((p ++ x :: y :: q).toArray.setIfInBounds p.length v).eraseIdxIfInBounds (p.length + 1) = (p ++ v :: q).toArray:=by
 simp [Array.eraseIdxIfInBounds]
 rw [List.eraseIdx_append_of_length_le (by omega),show p.length + 1 - p.length = 1 by omega]
 rfl
theorem zfQ {α : Type} (q : List α) (z : α) (f : α → α) : (q ++ [z]).toArray.modify ((q ++ [z]).toArray.size - 1) f = (q ++ [f z]).toArray:=by
 apply Array.ext'
 simp
 induction q with
 | nil => rfl
 | cons a q ih =>
  show (a :: (q ++ [z])).modify (q.length + 1) f = a :: (q ++ [f z])
  rw [List.modify_succ_cons,ih]
theorem zg6 {xs : Array Keyed} {p : List (Nat × Nat × Nat)} {n : Nat} (hl : p.length ≤ 1) (hn : 1 ≤ n) (h : Runs val xs p 0 n) : SIn val xs 0 n:=by
 match p,hl,h with
 | [],_,h =>
  have h : 0 = n:=h
  omega
 | [(a,b,c)],_,h =>
  obtain ⟨_,_,h3,h4⟩:=h
  have h4 : 0 + b = n:=h4
  rw [← h4]
  exact h3
 | _ :: _ :: _,hl,_ => simp at hl
theorem zhY {α : Type} {p : List α} {j : Nat} (h : j + 2 ≤ p.length) : ∃ pre x y post,p = pre ++ x :: y :: post ∧ pre.length = j:=by
 refine ⟨p.take j,p[j],p[j + 1],p.drop (j + 2),?_,by rw [List.length_take]; omega⟩
 have e1:=(List.take_append_drop j p).symm
 rw [List.drop_eq_getElem_cons (show j < p.length by omega),List.drop_eq_getElem_cons (show j + 1 < p.length by omega)] at e1
 exact e1
end
section
variable {prog : Program} {w : World} {A : Around} {E : Value → Shared → Prop} {s : Shared} {a₀ : Array Keyed} {κ : SortKind} {val : Keyed → Int}
theorem zdJ {st : SortSt} {pre post : List (Nat × Nat × Nat)} {x y : Nat × Nat × Nat} {hi : Nat} {Q : Bool → SortSt → Prop} (hC : Cmp prog w A s κ val a₀) (hB : SB κ a₀ st) (hp : pendingOf st = (pre ++ x :: y :: post).toArray) (hR : Runs val (arrOf st) (pre ++ x :: y :: post) 0 hi) (hhi : hi ≤ a₀.size)
  (h : ∀ st' v,SB κ a₀ st' → pendingOf st' = (pre ++ v :: post).toArray → (∀ k,hi ≤ k → (arrOf st')[k]? = (arrOf st)[k]?) → Runs val (arrOf st') (pre ++ v :: post) 0 hi → Q true st') :
  wpS (model prog w) A E s (mergeAt' pre.length) Q st:=by
 obtain ⟨sa,na,pw⟩:=x
 obtain ⟨sb,nb,pw2⟩:=y
 obtain ⟨mid,r1,r2⟩:=Runs.append.mp hR
 obtain ⟨rfl,q1,q2,rfl,q4,q5,r3⟩:=r2
 have hle:=r3.le
 refine zhX (i:=pre.length) (sa:=sa) (na:=na) (pw:=pw) (sb:=sa + na) (nb:=nb) (pw2:=pw2) hC hB (by rw [hp]; simp) (by rw [hp]; simp) rfl q1 q4 (by omega) q2 q5 fun st' hB' hp' hk hs => ?_
 refine h st' (sa,na + nb,pw) hB' (by rw [hp',hp,zjd]) (fun k hk' => hk k (by omega)) ?_
 refine Runs.append.mpr ⟨sa,r1.keep fun k _ b => hk k (by omega),rfl,by omega,?_,?_⟩
 ·rw [← Nat.add_assoc]
  exact hs
 ·rw [← Nat.add_assoc]
  exact r3.keep fun k a b => hk k (by omega)
theorem zj6 {n : Nat} {c : Prop} [Decidable c] (h : ¬ n ≤ 1) : (if c then n - 2 - 1 else n - 2) + 2 ≤ n:=by
 by_cases hc : c
 ·rw [if_pos hc]
  omega
 ·rw [if_neg hc]
  omega
theorem zje {st : SortSt} {p : List (Nat × Nat × Nat)} {j hi : Nat} {Q : Bool → SortSt → Prop} (hj : j + 2 ≤ p.length) (hC : Cmp prog w A s κ val a₀) (hB : SB κ a₀ st) (hp : pendingOf st = p.toArray) (hR : Runs val (arrOf st) p 0 hi) (hhi : hi ≤ a₀.size)
  (h : ∀ st' p',SB κ a₀ st' → pendingOf st' = p'.toArray → Runs val (arrOf st') p' 0 hi → p'.length + 1 = p.length → Q true st') : wpS (model prog w) A E s (mergeAt' j) Q st:=by
 obtain ⟨pre,x,y,post,rfl,rfl⟩:=zhY hj
 exact zdJ hC hB hp hR hhi fun st' v a b _ d => h st' _ a b d (by simp only [List.length_append,List.length_cons]; omega)
theorem zll {st : SortSt} {Q : Unit → SortSt → Prop} (hC : Cmp prog w A s κ val a₀) (hB : SB κ a₀ st) (hp : pendingOf st = #[]) (h2 : 1 ≤ a₀.size)
  (h : ∀ st',SB κ a₀ st' → SIn val (arrOf st') 0 a₀.size → Q () st') : wpS (model prog w) A E s sortRuns' Q st:=by
 rw [sortRuns'_eq]
 refine wpS_bind (wpS_get ?_)
 dsimp only
 rw [hB.size]
 generalize minRun' a₀.size a₀.size 0 = mr
 refine wpS_bind (wpS_mono (wpS_forRange (I:=fun x c st' => ∃ lo p,c = (none,lo) ∧ SB κ a₀ st' ∧ pendingOf st' = p.toArray ∧ Runs val (arrOf st') p 0 lo ∧ lo ≤ a₀.size ∧ min x a₀.size ≤ lo)
  (Q:=fun c st' => ∃ p,c = (none,a₀.size) ∧ SB κ a₀ st' ∧ pendingOf st' = p.toArray ∧ Runs val (arrOf st') p 0 a₀.size) ?step ?fin ⟨0,[],rfl,hB,hp,rfl,by omega,by omega⟩) ?post)
 case fin =>
  rintro c st' ⟨lo,p,rfl,hB',hp',hR,hlo,hx⟩
  have : lo = a₀.size:=by omega
  subst this
  exact ⟨p,rfl,hB',hp',hR⟩
 case step =>
  rintro x c st' _ hx ⟨lo,p,rfl,hB',hp',hR,hlo,hxl⟩
  dsimp only
  by_cases hge : lo ≥ a₀.size
  ·rw [if_pos hge]
   have : lo = a₀.size:=by omega
   subst this
   exact wpS_pure ⟨p,rfl,hB',hp',hR⟩
  rw [if_neg hge]
  refine wpS_bind (zj1 hC (by omega) (by omega) (SF.refl hB') fun m st1 hF1 hm1 hm2 hs1 => ?_)
  dsimp only
  by_cases hmr : m < mr
  ·rw [if_pos hmr]
   (refine wpS_bind (wpS_lift (wpAny_rule ⟨rfl,?_⟩)))
   refine wpS_bind (zl3 hC (by omega) (by omega) hF1 hs1 fun st2 hF2 hs2 => ?_)
   rw [if_neg (by decide)]
   have hn1 : 1 ≤ min (a₀.size - lo) mr:=by omega
   have hn2 : lo + min (a₀.size - lo) mr ≤ a₀.size:=by omega
   generalize min (a₀.size - lo) mr = n at hs2 hn1 hn2 ⊢
   refine wpS_bind (wpS_get ?_)
   have hp1 : pendingOf st2 = p.toArray:=hF2.pend.trans hp'
   have hR1 : Runs val (arrOf st2) p 0 lo:=hR.keep fun k _ b => hF2.low k b
   rcases List.eq_nil_or_concat p with rfl | ⟨q,z,rfl⟩
   ·rw [hp1]
    show wpS _ _ _ _ (do
     modify fun s => setPending s ((pendingOf s).push (lo,n,0)); pure (ForInStep.yield (none,lo + n))) _ _
    refine wpS_bind (wpS_modify (wpS_pure ⟨lo + n,[(lo,n,0)],rfl,⟨hF2.b.perm,hF2.b.kind,hF2.b.failed⟩,?_,?_,by omega,by omega⟩))
    ·show (pendingOf st2).push _ = _
     rw [hp1]
     rfl
    ·have h0 : 0 = lo:=hR1
     subst h0
     exact ⟨rfl,hn1,hs2,rfl⟩
   obtain ⟨s1,n1,w1⟩:=z
   rw [hp1,List.concat_eq_append,show ((q ++ [(s1,n1,w1)]).toArray).back? = some (s1,n1,w1) by simp]
   rw [List.concat_eq_append] at hp1 hR1
   dsimp only
   generalize power' a₀.size (2 * s1 + n1) (2 * s1 + n1 + n1 + n) a₀.size = pw
   refine wpS_bind (wpS_mono (wpS_forRange (I:=fun _ c st' => c = (none,()) ∧ ∃ q' z,SB κ a₀ st' ∧ pendingOf st' = (q' ++ [z]).toArray ∧ Runs val (arrOf st') (q' ++ [z]) 0 lo ∧ (∀ k,lo ≤ k → (arrOf st')[k]? = (arrOf st2)[k]?))
    (Q:=fun c st' => c = (none,()) ∧ ∃ q' z,SB κ a₀ st' ∧ pendingOf st' = (q' ++ [z]).toArray ∧ Runs val (arrOf st') (q' ++ [z]) 0 lo ∧ (∀ k,lo ≤ k → (arrOf st')[k]? = (arrOf st2)[k]?)) ?_ (fun _ _ hh => hh) ⟨rfl,q,(s1,n1,w1),hF2.b,hp1,hR1,fun _ _ => rfl⟩) ?_)
   ·rintro x2 c st2 _ hx2 ⟨rfl,q',z,hB2,hp2,hR2,hk2⟩
    refine wpS_bind (wpS_get ?_)
    rcases List.eq_nil_or_concat q' with rfl | ⟨q2,y,rfl⟩
    ·rw [hp2,if_neg (by simp)]
     exact wpS_pure ⟨rfl,[],z,hB2,hp2,hR2,hk2⟩
    rw [List.concat_eq_append,List.append_assoc] at hp2 hR2
    have esz : (pendingOf st2).size - 2 = q2.length:=by rw [hp2]; simp
    have eel : (if (pendingOf st2).size > 1 then (pendingOf st2)[(pendingOf st2).size - 2]? else none) = some y:=by
     rw [if_pos (by rw [hp2]; simp),esz,hp2]
     simp
    rw [eel]
    obtain ⟨y1,y2,y3⟩:=y
    dsimp only
    by_cases ho : y3 ≤ pw
    ·rw [if_pos ho]
     exact wpS_pure ⟨rfl,q2 ++ [(y1,y2,y3)],z,hB2,by rw [hp2,List.append_assoc],by rw [List.append_assoc]; exact hR2,hk2⟩
    ·rw [if_neg ho,esz]
     refine wpS_bind (zdJ hC hB2 hp2 hR2 (by omega) fun st3 v hB3 hp3 hk3 hR3 => ?_)
     rw [if_neg (by decide)]
     exact wpS_pure ⟨rfl,q2,v,hB3,hp3,hR3,fun k hk => (hk3 k hk).trans (hk2 k hk)⟩
   ·rintro c st2 ⟨rfl,q',z,hB2,hp2,hR2,hk2⟩
    obtain ⟨z1,z2,z3⟩:=z
    dsimp only
    refine wpS_bind (wpS_modify (wpS_bind (wpS_modify (wpS_pure ⟨lo + n,q' ++ [(z1,z2,pw),(lo,n,0)],rfl,⟨hB2.perm,hB2.kind,hB2.failed⟩,?_,?_,by omega,by omega⟩))))
    ·show ((pendingOf st2).modify ((pendingOf st2).size - 1) fun x => (x.fst,x.2.fst,pw)).push (lo,n,0) = _
     rw [hp2,zfQ]
     simp
    ·show Runs val (arrOf st2) _ _ _
     obtain ⟨mid,r1,r2⟩:=Runs.append.mp hR2
     obtain ⟨e1,e2,e3,e4⟩:=r2
     have e4 : mid + z2 = lo:=e4
     refine Runs.append.mpr ⟨mid,r1,e1,e2,e3,e4.symm,hn1,?_,?_⟩
     ·intro i j a1 a2 a3
      rw [zS (hk2 i (by omega)),zS (hk2 j (by omega))]
      exact hs2 i j (by omega) a2 (by omega)
     ·show mid + z2 + n = lo + n
      omega
  ·rw [if_neg hmr]
   have hn2 : lo + m ≤ a₀.size:=by omega
   refine wpS_bind (wpS_get ?_)
   have hp1 : pendingOf st1 = p.toArray:=hF1.pend.trans hp'
   have hR1 : Runs val (arrOf st1) p 0 lo:=hR.keep fun k _ b => hF1.low k b
   rcases List.eq_nil_or_concat p with rfl | ⟨q,z,rfl⟩
   ·rw [hp1]
    show wpS _ _ _ _ (do
     modify fun s => setPending s ((pendingOf s).push (lo,m,0))
     pure (ForInStep.yield (none,lo + m))) _ _
    refine wpS_bind (wpS_modify (wpS_pure ⟨lo + m,[(lo,m,0)],rfl,⟨hF1.b.perm,hF1.b.kind,hF1.b.failed⟩,?_,?_,by omega,by omega⟩))
    ·show (pendingOf st1).push _ = _
     rw [hp1]
     rfl
    ·have h0 : 0 = lo:=hR1
     subst h0
     exact ⟨rfl,hm1,hs1,rfl⟩
   obtain ⟨s1,n1,w1⟩:=z
   rw [hp1,List.concat_eq_append,show ((q ++ [(s1,n1,w1)]).toArray).back? = some (s1,n1,w1) by simp]
   rw [List.concat_eq_append] at hp1 hR1
   dsimp only
   generalize power' a₀.size (2 * s1 + n1) (2 * s1 + n1 + n1 + m) a₀.size = pw
   refine wpS_bind (wpS_mono (wpS_forRange (I:=fun _ c st' => c = (none,()) ∧ ∃ q' z,SB κ a₀ st' ∧ pendingOf st' = (q' ++ [z]).toArray ∧ Runs val (arrOf st') (q' ++ [z]) 0 lo ∧ (∀ k,lo ≤ k → (arrOf st')[k]? = (arrOf st1)[k]?))
    (Q:=fun c st' => c = (none,()) ∧ ∃ q' z,SB κ a₀ st' ∧ pendingOf st' = (q' ++ [z]).toArray ∧ Runs val (arrOf st') (q' ++ [z]) 0 lo ∧ (∀ k,lo ≤ k → (arrOf st')[k]? = (arrOf st1)[k]?)) ?_ (fun _ _ hh => hh) ⟨rfl,q,(s1,n1,w1),hF1.b,hp1,hR1,fun _ _ => rfl⟩) ?_)
   ·rintro x2 c st2 _ hx2 ⟨rfl,q',z,hB2,hp2,hR2,hk2⟩
    refine wpS_bind (wpS_get ?_)
    rcases List.eq_nil_or_concat q' with rfl | ⟨q2,y,rfl⟩
    ·rw [hp2,if_neg (by simp)]
     exact wpS_pure ⟨rfl,[],z,hB2,hp2,hR2,hk2⟩
    rw [List.concat_eq_append,List.append_assoc] at hp2 hR2
    have esz : (pendingOf st2).size - 2 = q2.length:=by rw [hp2]; simp
    have eel : (if (pendingOf st2).size > 1 then (pendingOf st2)[(pendingOf st2).size - 2]? else none) = some y:=by
     rw [if_pos (by rw [hp2]; simp),esz,hp2]
     simp
    rw [eel]
    obtain ⟨y1,y2,y3⟩:=y
    dsimp only
    by_cases ho : y3 ≤ pw
    ·rw [if_pos ho]
     exact wpS_pure ⟨rfl,q2 ++ [(y1,y2,y3)],z,hB2,by rw [hp2,List.append_assoc],by rw [List.append_assoc]; exact hR2,hk2⟩
    ·rw [if_neg ho,esz]
     refine wpS_bind (zdJ hC hB2 hp2 hR2 (by omega) fun st3 v hB3 hp3 hk3 hR3 => ?_)
     rw [if_neg (by decide)]
     exact wpS_pure ⟨rfl,q2,v,hB3,hp3,hR3,fun k hk => (hk3 k hk).trans (hk2 k hk)⟩
   ·rintro c st2 ⟨rfl,q',z,hB2,hp2,hR2,hk2⟩
    obtain ⟨z1,z2,z3⟩:=z
    dsimp only
    refine wpS_bind (wpS_modify (wpS_bind (wpS_modify (wpS_pure ⟨lo + m,q' ++ [(z1,z2,pw),(lo,m,0)],rfl,⟨hB2.perm,hB2.kind,hB2.failed⟩,?_,?_,by omega,by omega⟩))))
    ·show ((pendingOf st2).modify ((pendingOf st2).size - 1) fun x => (x.fst,x.2.fst,pw)).push (lo,m,0) = _
     rw [hp2,zfQ]
     simp
    ·show Runs val (arrOf st2) _ _ _
     obtain ⟨mid,r1,r2⟩:=Runs.append.mp hR2
     obtain ⟨e1,e2,e3,e4⟩:=r2
     have e4 : mid + z2 = lo:=e4
     refine Runs.append.mpr ⟨mid,r1,e1,e2,e3,e4.symm,hm1,?_,?_⟩
     ·intro i j a1 a2 a3
      rw [zS (hk2 i (by omega)),zS (hk2 j (by omega))]
      exact hs1 i j (by omega) a2 (by omega)
     ·show mid + z2 + m = lo + m
      omega
 case post =>
  rintro c st1 ⟨p,rfl,hB1,hp1,hR1⟩
  dsimp only
  have hpl:=hR1.le
  refine wpS_bind (wpS_mono (wpS_forRange (I:=fun x c st' => c = (none,()) ∧ ∃ p,SB κ a₀ st' ∧ pendingOf st' = p.toArray ∧ Runs val (arrOf st') p 0 a₀.size ∧ p.length ≤ max 1 (a₀.size - x))
   (Q:=fun c st' => c = (none,()) ∧ SB κ a₀ st' ∧ SIn val (arrOf st') 0 a₀.size) ?_ ?_ ⟨rfl,p,hB1,hp1,hR1,by omega⟩) ?_)
  ·rintro x c st2 _ hx ⟨rfl,p2,hB2,hp2,hR2,hl2⟩
   refine wpS_bind (wpS_get ?_)
   have hsz : (pendingOf st2).size = p2.length:=by rw [hp2]; simp
   rw [hsz]
   by_cases hle : p2.length ≤ 1
   ·rw [if_pos hle]
    exact wpS_pure ⟨rfl,hB2,zg6 hle h2 hR2⟩
   rw [if_neg hle]
   refine wpS_bind (zje (p:=p2) (zj6 hle) hC hB2 hp2 hR2 (Nat.le_refl _) fun st3 p3 hB3 hp3 hR3 hl3 => ?_)
   rw [if_neg (by decide)]
   exact wpS_pure ⟨rfl,p3,hB3,hp3,hR3,by omega⟩
  ·rintro c st2 ⟨rfl,p2,hB2,hp2,hR2,hl2⟩
   exact ⟨rfl,hB2,zg6 (by omega) h2 hR2⟩
  ·rintro c st2 ⟨rfl,hB2,hS⟩
   exact wpS_pure (h st2 hB2 hS)
end
end Srt
end
section
set_option maxHeartbeats 3995000
namespace Srt
open PySem PyProof.Rows
def num (B : Int) : List Int → Int
 | [] => 0
 | n :: r => n * B ^ r.length + num B r
theorem num_rng {B : Int} (hB : 1 ≤ B) : ∀ {ns : List Int},(∀ n ∈ ns,0 ≤ n ∧ n < B) → 0 ≤ num B ns ∧ num B ns < B ^ ns.length
 | [],_ => by simp [num]
 | n :: r,h => by
  obtain ⟨h1,h2⟩:=num_rng hB (ns:=r) fun m hm => h m (List.mem_cons_of_mem _ hm)
  obtain ⟨a,b⟩:=h n (by simp)
  have hp : 0 < B ^ r.length:=Int.pow_pos (by omega)
  have e : B ^ (n :: r).length = B ^ r.length * B:=by rw [List.length_cons,Int.pow_succ]
  show 0 ≤ n * B ^ r.length + num B r ∧ n * B ^ r.length + num B r < _
  rw [e]
  have h3 : 0 ≤ n * B ^ r.length:=Int.mul_nonneg a (by omega)
  have h4 : n * B ^ r.length ≤ (B - 1) * B ^ r.length:=Int.mul_le_mul_of_nonneg_right (by omega) (by omega)
  have h5 : (B - 1) * B ^ r.length = B ^ r.length * B - B ^ r.length:=by rw [Int.sub_mul,Int.one_mul,Int.mul_comm]
  omega
def zfR : List Int → List Int → Bool
 | [],[] => false
 | [],_ :: _ => true
 | _ :: _,[] => false
 | x :: xs,y :: ys => if x = y then zfR xs ys else decide (x < y)
theorem zb3 (x y : Int) (xs ys : List Int) : zfR (x :: xs) (y :: ys) = if x = y then zfR xs ys else decide (x < y):=rfl
theorem zg7 {B : Int} (hB : 1 ≤ B) : ∀ {ms ns : List Int},ms.length = ns.length → (∀ n ∈ ms,0 ≤ n ∧ n < B) → (∀ n ∈ ns,0 ≤ n ∧ n < B) → zfR ms ns = decide (num B ms < num B ns)
 | [],[],_,_,_ => by simp [zfR,num]
 | [],_ :: _,h,_,_ => by simp at h
 | _ :: _,[],h,_,_ => by simp at h
 | m :: ms,n :: ns,hl,h1,h2 => by
  have hl' : ms.length = ns.length:=by simpa using hl
  have ih:=zg7 hB hl' (fun x hx => h1 x (List.mem_cons_of_mem _ hx)) (fun x hx => h2 x (List.mem_cons_of_mem _ hx))
  obtain ⟨a1,a2⟩:=num_rng hB fun x hx => h1 x (List.mem_cons_of_mem m hx)
  obtain ⟨b1,b2⟩:=num_rng hB fun x hx => h2 x (List.mem_cons_of_mem n hx)
  rw [zb3]
  show _ = decide (m * B ^ ms.length + num B ms < n * B ^ ns.length + num B ns)
  rw [hl'] at a2 ⊢
  have hp : 0 < B ^ ns.length:=Int.pow_pos (by omega)
  by_cases e : m = n
  ·rw [if_pos e,ih,e]
   rw [Bool.eq_iff_iff]
   simp only [decide_eq_true_eq]
   omega
  ·rw [if_neg e,Bool.eq_iff_iff]
   simp only [decide_eq_true_eq]
   have key : ∀ x y : Int,x < y → x * B ^ ns.length + B ^ ns.length ≤ y * B ^ ns.length:=fun x y hxy => by
    have:=Int.mul_le_mul_of_nonneg_right (show x + 1 ≤ y by omega) (show 0 ≤ B ^ ns.length by omega)
    rw [Int.add_mul,Int.one_mul] at this
    exact this
   constructor
   ·intro h
    have:=key m n h
    omega
   ·intro h
    rcases Int.lt_trichotomy m n with h3 | h3 | h3
    ·exact h3
    ·exact absurd h3 e
    ·have:=key n m h3
     omega
section
variable {prog : Program} {w : World} {A : Around} {E : Value → Shared → Prop} {s : Shared}
theorem zg8 {Q : Bool → Shared → Prop} {fin : Bool} : ∀ {xs ys : List Value} {ms ns : List Int} (i : Nat),IntsAre xs ms → IntsAre ys ns → ms.length = ns.length → Q (if ms = ns then fin else zfR ms ns) s → PySem.W.KatLex prog w A true fin Q (xs.zip ys) i s
 | [],[],[],[],i,_,_,_,h => PySem.W.kat_nil (by simpa using h)
 | _ :: _,_,[],_,_,hx,_,_,_ => by cases hx
 | [],_,_ :: _,_,_,hx,_,_,_ => by cases hx
 | _,[],_,_ :: _,_,_,hy,_,_ => by cases hy
 | _,_ :: _,_,[],_,_,hy,_,_ => by cases hy
 | x :: xs,y :: ys,m :: ms,n :: ns,i,hx,hy,hl,h => by
  cases hx with
  | cons _ t hx =>
   cases hy with
   | cons _ u hy =>
    refine PySem.W.kat_cons (wpAny_eqBool_int ?_)
    by_cases e : m = n
    ·rw [show (m == n) = true by simpa using e]
     refine PySem.W.kat_yes (zg8 (i + 1) hx hy (by simpa using hl) ?_)
     subst e
     rw [zb3,if_pos rfl] at h
     simpa using h
    ·rw [show (m == n) = false by simpa using e]
     have hne : ¬ (m :: ms = n :: ns):=fun z => e (List.cons.inj z).1
     rw [if_neg hne,zb3,if_neg e] at h
     refine PySem.W.kat_no ?_
     by_cases hi : i = 0
     ·subst hi
      exact oneLt_int h
     ·have hb : (true && i == 0) = false:=by simp [hi]
      rw [hb]
      exact PySem.W.kat_one _ _ (wpAny_lt_int h)
structure Tups (h : Heap) (k : Nat) (B : Int) (vs : List Value) (mss : List (List Int)) : Prop where
 len : vs.length = mss.length
 at' : ∀ (i : Nat) v ms,vs[i]? = some v → mss[i]? = some ms → ∃ a o its n,v = .ref a ∧ h.get? a = some o ∧ o.cls = .type "tuple" ∧ o.data = .seq its n ∧ IntsAre its.toList ms
 rg : ∀ ms ∈ mss,ms.length = k ∧ ∀ n ∈ ms,0 ≤ n ∧ n < B
end
end Srt
end
section
set_option maxHeartbeats 3994000
namespace PySem
open PyProof.Rows
def zc1 (h : Heap) (d : Addr) (es : Array DictEntry) (ep : Nat) : Prop:=∃ o,h.get? d = some o ∧ o.ExactDict ∧ o.data = .dict es ep
theorem zc1.at' {h h' : Heap} {d : Addr} {es : Array DictEntry} {ep : Nat} (x : zc1 h d es ep) (e : ∀ o,h.get? d = some o → h'.get? d = some o) : zc1 h' d es ep:=let ⟨o,ho,r⟩:=x; ⟨o,e _ ho,r⟩
theorem zc1.typeIs {s : Shared} {d : Addr} {es : Array DictEntry} {ep : Nat} (x : zc1 s.heap d es ep) : s.TypeIs (.ref d) "dict":=let ⟨o,ho,hc,_⟩:=x; ⟨o,ho,hc.1⟩
section
variable {prog : Program} {w : World} {A : Around} {E : Value → Shared → Prop} {s : Shared} {it d : Addr} {i ep : Nat} {es : Array DictEntry}
theorem zfS {Q : Value → Shared → Prop} (hd : (d == sysModules) = false) (hm : zc1 s.heap d es ep) (hQ : Q (.ref s.heap.objs.size) { s with heap:=s.heap.push { cls:=.type "dict_keyiterator",data:=.fields #[.ref d,.int 0 0,.int es.size 0,.int ep 0] } }) : wpAny (model prog w) A (pyIter (.ref d)) Q E s:=by
 have hT:=hm.typeIs
 obtain ⟨o,ho,hc,hdat⟩:=id hm
 refine wpAny_pyIter_slot hT F.slot_dict_iter (wpAny_call_entry F.slot_dict_iter hT F.entry_dict_iter ?_ (F.args_dict_iter_1 _)); unfold Builtin.«dict.__iter__» Builtin.Dict.dictSlotNone
 refine wpAny_bind (wpAny_bind (wpAny_notOrdered_dict hT ?_)); show wpAny _ _ (pure (Value.ref d)) _ _ s
 refine wpAny_pure ?_; show wpAny _ _ (Builtin.Dict.showsAll d >>= _) _ _ s; unfold Builtin.Dict.showsAll
 rw [if_neg (show ¬ ((d == sysModules) = true) by rw [hd]; decide)]
 refine wpAny_bind (wpAny_pure (wpAny_bind (wpAny_dictEntries ho hdat (wpAny_bind (wpAny_dictEpoch ho hdat (wpAny_bind (wpAny_newObj_type (wpAny_pure ⟨_,rfl,"dict_keyiterator",_,⟨_,Heap.get?_push_size _ rfl,rfl⟩,F.slot_dict_keyiterator_next.lookup,?_⟩))))))))
 simpa [rawInt] using hQ
theorem zfT {e : DictEntry} {Q : Option Value → Shared → Prop} (hit : s.heap.IsKeyIter it d i es.size ep) (hm : zc1 s.heap d es ep) (he : es[i]? = some e)
  (hQ : ∀ h',h'.IsKeyIter it d (i + 1) es.size ep → Heap.SameBut it s.heap h' → Q (some e.key) { s with heap:=h' }) : wpAny (model prog w) A (pyNext (.ref it)) Q E s:=by
 (obtain ⟨o,ho,hc,hd⟩:=id hit)
 obtain ⟨od,hod,hcd,hdd⟩:=id hm
 have hlt : i < es.size:=(Array.getElem?_eq_some_iff.mp he).1
 have hown : Builtin.Dict_items.ownsTuple "dict_keyiterator" = false:=by decide +kernel
 unfold pyNext; refine wpAny_bind (wpAny_attempt (wpAny_callSpecial?_slot (name:=Str.ofString "__next__") hit.typeIs F.slot_dict_keyiterator_next (wpAny_call_entry F.slot_dict_keyiterator_next hit.typeIs F.entry_dict_keyiterator_next ?_ (F.args_dict_keyiterator_next_1 _))))
 refine wpAny_bind (wpAny_pure (wpAny_bind (wpAny_bind (wpAny_bind (wpAny_typeNameOfWhole_keyiter hit.typeIs (wpAny_pure (wpAny_bind (wpAny_fieldsOf ho hd ?_))))))))
 simp only [hown,Bool.false_eq_true,if_false]; show wpAny _ _ (if (Value.ref d == Value.none) = true then _ else _) _ _ s
 rw [if_neg (show ¬ ((Value.ref d == Value.none) = true) from fun z => Bool.false_ne_true z)]
 refine wpAny_bind (wpAny_pure (wpAny_bind (wpAny_dictEntries hod hdd ?_)))
 rw [if_neg (show ¬ ((((es.size : Nat) : Int) != ((es.size : Nat) : Int)) = true) by simp)]
 refine wpAny_bind (wpAny_pure (wpAny_bind (wpAny_dictEpoch hod hdd ?_)))
 rw [if_neg (by simp)]; refine wpAny_pure ?_
 simp only [show ¬ ((i : Int) < 0) by omega,if_false,Int.toNat_natCast,he]
 refine wpAny_bind (wpAny_bind (wpAny_typeNameOfWhole_keyiter hit.typeIs (wpAny_pure (wpAny_bind (wpAny_isOneOf_keyiter hit.typeIs ?_)))))
 show wpAny _ _ (setField (.ref it) 1 (rawInt ((i : Int) + 1)) >>= _) _ _ s; refine wpAny_bind (wpAny_setField ho hd (by simp) ?_)
 have hit' : (s.heap.update it (Obj.mapFields (·.setIfInBounds 1 (rawInt ((i : Int) + 1))))).IsKeyIter it d (i + 1) es.size ep:=⟨_,Heap.get?_update_self _ ho (Obj.isFreed_of_fields (Obj.data_mapFields hd _)),(Obj.cls_mapFields ..).trans hc,by rw [Obj.data_mapFields hd]; simp [rawInt]⟩
 refine wpAny_bind (wpAny_holding (wpAny_bind (wpAny_isOneOf_keyiter (s:={ s with heap:=s.heap.update it (Obj.mapFields (·.setIfInBounds 1 (rawInt ((i : Int) + 1)))) }) hit'.typeIs ?_)))
 show wpAny _ _ (pure e.key) _ _ _; exact wpAny_pure (wpAny_pure ⟨_,rfl,wpAny_pure (hQ _ hit' (Heap.SameBut.update ..))⟩)
theorem zg9 {Q : Option Value → Shared → Prop} (hh : A.handled = none) (hit : s.heap.IsKeyIter it d i es.size ep) (hm : zc1 s.heap d es ep) (he : es.size ≤ i) (hQ : ∀ h',Heap.ExtBut it s.heap h' → Q none { s with heap:=h' }) : wpAny (model prog w) A (pyNext (.ref it)) Q E s:=by
 (obtain ⟨o,ho,hc,hd⟩:=id hit)
 obtain ⟨od,hod,hcd,hdd⟩:=id hm
 have hown : Builtin.Dict_items.ownsTuple "dict_keyiterator" = false:=by decide +kernel
 unfold pyNext; refine wpAny_bind (wpAny_attempt (wpAny_callSpecial?_slot (name:=Str.ofString "__next__") hit.typeIs F.slot_dict_keyiterator_next (wpAny_call_entry F.slot_dict_keyiterator_next hit.typeIs F.entry_dict_keyiterator_next ?_ (F.args_dict_keyiterator_next_1 _))))
 refine wpAny_bind (wpAny_pure (wpAny_bind (wpAny_bind (wpAny_bind (wpAny_typeNameOfWhole_keyiter hit.typeIs (wpAny_pure (wpAny_bind (wpAny_fieldsOf ho hd ?_))))))))
 simp only [hown,Bool.false_eq_true,if_false]; show wpAny _ _ (if (Value.ref d == Value.none) = true then _ else _) _ _ s
 rw [if_neg (show ¬ ((Value.ref d == Value.none) = true) from fun z => Bool.false_ne_true z)]
 refine wpAny_bind (wpAny_pure (wpAny_bind (wpAny_dictEntries hod hdd ?_)))
 rw [if_neg (show ¬ ((((es.size : Nat) : Int) != ((es.size : Nat) : Int)) = true) by simp)]
 refine wpAny_bind (wpAny_pure (wpAny_bind (wpAny_dictEpoch hod hdd ?_)))
 rw [if_neg (by simp)]; refine wpAny_pure ?_
 simp only [show ¬ ((i : Int) < 0) by omega,if_false,Int.toNat_natCast,Array.getElem?_eq_none he]
 refine wpAny_bind (wpAny_bind (wpAny_typeNameOfWhole_keyiter hit.typeIs (wpAny_pure ?_)))
 show wpAny _ _ (setField (.ref it) 0 .none >>= _) _ _ s; refine wpAny_bind (wpAny_setField ho hd (by simp) ?_)
 show wpAny _ _ (newExc (.type "StopIteration") [] >>= _) _ _ _; simp only [newExc,newTuple]
 refine wpAny_bind (wpAny_bind (wpAny_newObj_type (wpAny_bind (m:=firstArgMember _ _) (wpAny_of_eq (a:=Value.none) (by first | rfl | (simp only [firstArgMember]; rfl)) (wpAny_newObj_type ?_ (by size_fits)))) (by size_fits)))
 simp only [raiseNew]; refine wpAny_bind (wpAny_handled ?_); rw [show A.in1.handled = none from hh]
 refine wpAny_bind (wpAny_pure (wpAny_throw ?_)); refine wpAny_bind (wpAny_isInstance (T:="StopIteration") (b:=true) ⟨_,Heap.get?_push_size _ rfl,rfl⟩ isSubtype_stop ?_)
 (exact wpAny_pure (hQ _ (((Heap.SameBut.update ..).extBut.push _).push _)))
theorem zhZ (hh : A.handled = none) (I d : Addr) (hne : d ≠ I) (es : Array DictEntry) (ep : Nat) :
  Walks prog w A I [I,d] [I] es.size (fun i v => ∃ e,es[i]? = some e ∧ v = e.key) (fun i h => h.IsKeyIter I d i es.size ep ∧ zc1 h d es ep) where
 sub:=(fun b hb => by simp at hb; simp [hb])
 frame:=(fun _ _ _ st hk => ⟨st.1.at fun o e => hk I (by simp) o e,st.2.at' fun o e => hk d (by simp) o e⟩)
 item:=fun i s Q E hi st hQ => zfT st.1 st.2 (getElem?_pos es i hi) fun h' hit' hs' => hQ _ h' s.toks ⟨es[i],getElem?_pos es i hi,rfl⟩ ⟨hit',st.2.at' fun o e => hs'.extBut d o hne e⟩ fun b o hb e => hs'.extBut b o (fun h => hb (by simp [h])) e
 done:=fun s Q E st hQ => zg9 hh st.1 st.2 (Nat.le_refl _) fun h' he' => hQ h' s.toks fun b o hb e => he' b o (fun h => hb (by simp [h])) e
 self:=(fun _ _ _ _ st hQ => wpAny_pyIter_keyiter st.1 hQ)
theorem zj7 (lo : (d == sysModules) = false) : PySem.W.KdlSrc prog w "dict" d d es.size (fun i v => ∃ e,es[i]? = some e ∧ v = e.key) (fun h => zc1 h d es ep) where
 type:=fun _ hm => hm.typeIs
 there:=fun _ hm => let ⟨_,ho,_⟩:=hm; ⟨Heap.lt_size ho,Heap.lt_size ho⟩
 keep:=(fun _ _ hm hk => hm.at' fun o e => hk d (.inl rfl) o e)
 notList:=by decide
 notTuple:=by decide
 hint:=fun _ _ _ _ hm hq => PySem.W.kdl_hint_dict hm.typeIs hq
 iter:=fun _ _ hh hm => ⟨_,_,(fun _ _ hq => zfS lo hm hq),zhZ hh _ d (by obtain ⟨_,ho,_⟩:=id hm; exact Nat.ne_of_lt (Heap.lt_size ho)) es ep,⟨⟨_,Heap.get?_push_size _ rfl,rfl,rfl⟩,hm.at' fun o e => Heap.get?_push_of_some _ e⟩⟩
end
end PySem
end
section
set_option maxHeartbeats 3994000
namespace Srt
open PySem PyProof.Rows
section
variable {prog : Program} {w : World} {A : Around} {E : Value → Shared → Prop} {s : Shared} {κ : SortKind} {val : Keyed → Int}
theorem zcN {vs : List Value} {p : Keyed} (h : p ∈ (pairsOf vs).toList) : p.1 ∈ vs ∧ p.2 = p.1:=by
 rw [pairsOf_toList] at h
 obtain ⟨i,hi,e⟩:=List.getElem_of_mem h
 rw [List.getElem_zip] at e
 rw [← e]
 exact ⟨List.getElem_mem _,rfl⟩
theorem zlm {vs : List Value} {xs : Array Keyed} (hp : xs.Perm (pairsOf vs)) (hs : SIn val xs 0 (pairsOf vs).size) : (xs.map (·.2)).toList.Perm vs ∧ (xs.map (·.2)).toList.Pairwise fun x y => val (x,x) ≤ val (y,y):=by
 (have hl : xs.toList.Perm (vs.zip vs):=by rw [← pairsOf_toList]; exact Array.perm_iff_toList_perm.mp hp)
 have hm : ∀ p ∈ xs.toList,p = (p.2,p.2):=fun p hp' => by
  have:=zcN (by rw [pairsOf_toList]; exact hl.mem_iff.mp hp')
  exact Prod.ext this.2.symm rfl
 constructor
 ·rw [Array.toList_map]
  refine (hl.map (·.2)).trans ?_
  rw [show (vs.zip vs).map (·.2) = vs from List.map_snd_zip (Nat.le_refl _)]
 ·rw [Array.toList_map,List.pairwise_map,List.pairwise_iff_getElem]
  intro i j hi hj hij
  (have hi' : i < xs.size:=by simpa using hi)
  (have hj' : j < xs.size:=by simpa using hj)
  have h1:=hs i j (Nat.zero_le _) (by omega) (by rw [← hp.size_eq]; exact hj')
  rw [zJ (getElem?_pos xs i hi'),zJ (getElem?_pos xs j hj')] at h1
  have e1:=hm xs.toList[i] (List.getElem_mem _)
  have e2:=hm xs.toList[j] (List.getElem_mem _)
  rw [← e1,← e2]
  simpa using h1
theorem zh0 {a : Addr} {vs : List Value} {n : Nat} {P : PySem.Fin → Shared → Prop} (ho : s.heap.get? a = some (seqObj "list" vs.toArray n)) (hlen : vs.length ≤ sizeLine)
  (hkind : ∀ h',(∀ b o,b ≠ a → s.heap.get? b = some o → h'.get? b = some o) → 2 ≤ vs.length → ∀ (Q : SortKind → Shared → Prop) (E : Value → Shared → Prop),Q κ { s with heap:=h' } → wpAny (model prog w) A (keyKind' vs.toArray) Q E { s with heap:=h' })
  (hcmp : ∀ h',(∀ b o,b ≠ a → s.heap.get? b = some o → h'.get? b = some o) → Cmp prog w A { s with heap:=h' } κ val (pairsOf vs))
  (h : ∀ out : Array Value,out.toList.Perm vs → (out.toList.Pairwise fun x y => val (x,x) ≤ val (y,y)) → P (.done (.ret .none)) { s with heap:=sortedHeap s.heap a vs out }) : wpAny (model prog w) A (Builtin.«list.sort» ⟨[.ref a],[]⟩) P E s:=by
 rw [list_sort_plain]
 (have ha : a < s.heap.objs.size:=Heap.lt_size ho)
 have hz : vs.toArray.size = vs.length:=List.size_toArray
 refine wpAny_bind (listItems_at ho rfl (wpAny_bind (listUpdate_at ho rfl ?_ (hsz:=by rw [hz]; exact hlen))))
 (obtain ⟨e1,ho1⟩ : ∃ e1,(s.heap.update a (Obj.mapSeq fun _ => #[])).get? a = some (seqObj "list" #[] e1):=⟨_,get?_update_seq ho (fun _ => #[])⟩)
 refine wpAny_bind (seqEpoch_at ho1 rfl (wpAny_bind (wpAny_newTuple (wpAny_bind (wpAny_newList (wpAny_holding ?_))) (hsz:=hlen))))
 have ho6 : (((s.heap.update a (Obj.mapSeq fun _ => #[])).push (seqObj "tuple" vs.toArray 0)).push (seqObj "list" #[] 0)).get? a = some (seqObj "list" #[] e1):=Heap.get?_push_of_some _ (Heap.get?_push_of_some _ ho1)
 have hk6 : ∀ b o,b ≠ a → s.heap.get? b = some o → (((s.heap.update a (Obj.mapSeq fun _ => #[])).push (seqObj "tuple" vs.toArray 0)).push (seqObj "list" #[] 0)).get? b = some o:=fun b o hb e => Heap.get?_push_of_some _ (Heap.get?_push_of_some _ ((Heap.get?_update_ne _ _ _ _ hb).trans e))
 (show wpAny (model prog w) A _ P E { s with heap:=((s.heap.update a (Obj.mapSeq fun _ => #[])).push (seqObj "tuple" vs.toArray 0)).push (seqObj "list" #[] 0) })
 dsimp only
 have hcm:=hcmp _ hk6
 have fin : ∀ st' : SortSt,SB κ (pairsOf vs) st' ∨ (arrOf st' = pairsOf vs ∧ failedOf st' = none) → SIn val (arrOf st') 0 (pairsOf vs).size →
   P (.done (.ret .none)) { s with heap:=sortedHeap s.heap a vs ((arrOf st').map (·.2)) }:=fun st' hB hs => by
  have hp : (arrOf st').Perm (pairsOf vs):=by
   rcases hB with hB | hB
   ·exact hB.perm
   ·rw [hB.1]
  obtain ⟨b1,b2⟩:=zlm hp hs
  exact h _ b1 b2
 (by_cases h2 : vs.toArray.size < 2)
 ·rw [if_pos h2,if_pos h2]
  refine wpAny_bind (wpAny_pure ?_); rw [StateT.run_pure]; refine wpAny_bind (wpAny_pure ?_)
  dsimp only
  refine wpAny_bind (seqEpoch_at ho6 rfl (wpAny_bind (listUpdate_at ho6 rfl ?_ (hsz2:=by rw [Array.size_map]; show (pairsOf vs).size ≤ _; rw [pairsOf_size]; omega))))
  (simp only [bne_self_eq_false,Bool.false_eq_true,if_false])
  refine wpAny_pure (fin (SortSt.mk' general' (vs.toArray.zip vs.toArray) #[] 7 none) (.inr ⟨rfl,rfl⟩) fun i j _ hij hj => ?_)
  have e : i = j:=by rw [pairsOf_size] at hj; omega
  rw [e]
  exact Int.le_refl _
 ·rw [if_neg h2,if_neg h2]
  refine wpAny_bind (hkind _ hk6 (by omega) _ _ ?_)
  refine wpAny_bind (wpAny_mono (zll (a₀:=pairsOf vs) (κ:=κ) (val:=val) (st:=SortSt.mk' κ (vs.toArray.zip vs.toArray) #[] 7 none) (Q:=fun _ st' => SB κ (pairsOf vs) st' ∧ SIn val (arrOf st') 0 (pairsOf vs).size)
   hcm ⟨Array.Perm.refl _,rfl,rfl⟩ rfl (by rw [pairsOf_size]; omega) fun st' a1 a2 => ⟨a1,a2⟩) ?_ fun _ _ e => e)
  rintro ⟨⟨⟩,st'⟩ s' ⟨rfl,hB,hs⟩
  dsimp only
  refine wpAny_bind (seqEpoch_at ho6 rfl (wpAny_bind (listUpdate_at ho6 rfl ?_ (hsz2:=Nat.le_trans (Nat.le_of_eq ((Array.size_map ..).trans (hB.perm.size_eq.trans (pairsOf_size _)))) (by omega)))))
  rw [hB.failed]
  (simp only [bne_self_eq_false,Bool.false_eq_true,if_false])
  exact wpAny_pure (fin st' (.inl hB) hs)
theorem zet {v : Value} {vs : List Value} {Q : Value → Shared → Prop} (hlen : vs.length ≤ sizeLine)
  (hcol : ∀ R : List Value → Shared → Prop,(∀ (h' : Heap) (tk : Nat),(∀ b o,s.heap.get? b = some o → h'.get? b = some o) → R vs { s with heap:=h',toks:=tk }) → wpAny (model prog w) A.in1 (collect v) R E s)
  (hkind : ∀ s',(∀ b o,s.heap.get? b = some o → s'.heap.get? b = some o) → 2 ≤ vs.length → ∀ (A' : Around) (Q : SortKind → Shared → Prop) (E : Value → Shared → Prop),Q κ s' → wpAny (model prog w) A' (keyKind' vs.toArray) Q E s')
  (hcmp : ∀ s' A',(∀ b o,s.heap.get? b = some o → s'.heap.get? b = some o) → Cmp prog w A' s' κ val (pairsOf vs))
  (h : ∀ (h' : Heap) (tk : Nat) (out : Array Value) (e : Nat) (D : Addr),(∀ b o,s.heap.get? b = some o → h'.get? b = some o) → (∀ b o,s.heap.get? b = some o → b < D) → h'.get? D = some (seqObj "list" out e) → out.toList.Perm vs → (out.toList.Pairwise fun x y => val (x,x) ≤ val (y,y)) → Q (.ref D) { s with heap:=h',toks:=tk }) :
  wpAny (model prog w) A (call (.builtin "sorted") [v]) Q E s:=by
 refine Calls.call_function_entry kind_sorted plain_sorted entry_sorted (args_sorted1 _) ?_; unfold Builtin.«sorted»
 refine wpAny_bind (m:=checkCount "sorted" 1 1 _) (wpAny_pure (wpAny_bind (wpAny_mono (hcol (fun us s' => us = vs ∧ ∃ (h' : Heap) (tk : Nat),s' = { s with heap:=h',toks:=tk } ∧ ∀ b o,s.heap.get? b = some o → h'.get? b = some o) fun h' tk k => ⟨rfl,h',tk,rfl,k⟩) ?_ fun _ _ e => e)))
 rintro us s' ⟨rfl,h1,tk,rfl,kk⟩
 refine wpAny_bind (wpAny_newList ?_ (hsz:=hlen))
 have hoL : (h1.push (seqObj "list" us.toArray 0)).get? h1.objs.size = some (seqObj "list" us.toArray 0):=Heap.get?_push_size _ rfl
 have kn : ∀ b o,s.heap.get? b = some o → b ≠ h1.objs.size:=fun b o e => Nat.ne_of_lt (Heap.lt_size (kk b o e))
 refine wpAny_bind (wpAny_holding (wpAny_call_entry slot_list_sort ⟨_,hoL,rfl⟩ entry_list_sort (zh0 (κ:=κ) (val:=val) hoL hlen (fun h' hk h2 Q E hq => hkind _ (fun b o e => hk b o (kn b o e) (Heap.get?_push_of_some _ (kk b o e))) h2 _ Q E hq) (fun h' hk => hcmp _ _ fun b o e => hk b o (kn b o e) (Heap.get?_push_of_some _ (kk b o e))) fun out a1 a2 => ⟨_,rfl,?_⟩) (args_list_sort _)))
 obtain ⟨e,he⟩:=sortedHeap_at (out:=out) hoL
 refine wpAny_pure ⟨_,rfl,h _ tk out e h1.objs.size (fun b o x => ?_) (fun b o x => Heap.lt_size (kk _ _ x)) he a1 a2⟩
 rw [sortedHeap_old (kn b o x) (by rw [Heap.size_push]; exact Nat.lt_succ_of_lt (Heap.lt_size (kk _ _ x)))]
 exact Heap.get?_push_of_some _ (kk _ _ x)
end
end Srt
end
section
set_option maxHeartbeats 3996000
namespace L2
open PySem PySem.Spec PyProof.Rows PySem.Builtin.Str
end L2
end
section
set_option maxHeartbeats 3996000
namespace L2
open PySem PySem.Spec PyProof.Rows PySem.Builtin.Str
theorem Inv.above {X : Cx} {pins : List (Addr × Obj)} {σ : St} {H : Hp} {s : Shared} {h' : Heap} {tk : Nat} {D : Addr} {o : HO} (I : Inv X pins σ H s) (k : ∀ b o,s.heap.get? b = some o → h'.get? b = some o) (hD : ∀ b o,s.heap.get? b = some o → b < D)
  (new : zR X.prog X.w (upd H D o) h' D o) : H D = none ∧ Inv X pins σ (upd H D o) { s with heap:=h',toks:=tk }:=by
 have hn : H D = none:=by
  cases e : H D with
  | none => rfl
  | some u =>
   obtain ⟨ob,z⟩:=ziT (I.hok D u e)
   exact absurd (hD D ob z) (Nat.lt_irrefl _)
 have hL : X.env.locals < D:=by
  obtain ⟨m,⟨o,es,ep,ho,_⟩,_⟩:=I.loc
  exact hD _ _ ho
 have I1 : Inv X pins σ H { s with heap:=h',toks:=tk }:=I.kept k
 refine ⟨hn,I1.track hn (Nat.le_of_lt (Nat.lt_of_le_of_lt I.ok.above hL)) (Nat.ne_of_lt hL) (fun x c e z => ?_) (fun p hp z => ?_) new⟩
 ·obtain ⟨v,oc,q,_⟩:=I.cell x c e
  exact absurd (hD c oc q) (by rw [z]; exact Nat.lt_irrefl _)
 ·exact absurd (hD p.1 _ (I.pin p hp).1) (by rw [z]; exact Nat.lt_irrefl _)
end L2
end
section
set_option maxHeartbeats 3994000
namespace L2
open PySem PySem.Spec PyProof.Rows Srt
def zjf (xs : List V) : List Int:=xs.filterMap fun x => match x with
 | .int n => some n
 | _ => none
theorem zh1 (ns : List Int) : zjf (ns.map V.int) = ns:=by
 unfold zjf
 rw [List.filterMap_map]
 induction ns with
 | nil => rfl
 | cons n ns ih =>
  rw [List.filterMap_cons]
  simp only [Function.comp]
  rw [ih]
def zch (H : Hp) (v : Value) : List Int:=match v with
 | .ref a => (match H a with
  | some (.tup xs) => zjf xs
  | _ => [])
 | _ => []
theorem zdK {H : Hp} {a : Addr} {ns : List Int} (h : H a = some (.tup (ns.map V.int))) : zch H (.ref a) = ns:=by
 unfold zch
 simp only [h]
 exact zh1 ns
def zh2 (H : Hp) (k : Nat) (B : Int) (ps : List (Addr × List Int)) : Prop:=∀ q ∈ ps,H q.1 = some (.tup (q.2.map V.int)) ∧ q.2.length = k ∧ ∀ n ∈ q.2,0 ≤ n ∧ n < B
theorem zeu : ∀ {ps : List (Addr × List Int)} {us : List Value},zA (ps.map fun q => V.ref q.1) us → us = ps.map fun q => Value.ref q.1
 | [],_,r => by cases r; rfl
 | q :: ps,_,r => by
  cases r with
  | cons r1 r2 =>
   cases r1
   rw [zeu r2]
   rfl
theorem zbI : ∀ (ps : List (Addr × List Int)),zA (ps.map fun q => V.ref q.1) (ps.map fun q => Value.ref q.1)
 | [] => .nil
 | q :: ps => .cons rfl (zbI ps)
section
variable {X : Cx} {pins : List (Addr × Obj)} {σ : St} {H : Hp} {s : Shared} {k : Nat} {B : Int} {ps : List (Addr × List Int)}
theorem ze0 (I : Inv X pins σ H s) {q : Addr × List Int} (h : H q.1 = some (.tup (q.2.map V.int))) : ∃ o its n,s.heap.get? q.1 = some o ∧ o.cls = .type "tuple" ∧ o.data = .seq its n ∧ IntsAre its.toList q.2:=by
 obtain ⟨its,r,⟨o,ho,hc,n,hd⟩,hz⟩:=I.tuple (SqT.of h)
 exact ⟨o,its.toArray,n,ho,hc,hd,by simpa using intsAre_of r⟩
theorem zjg (I : Inv X pins σ H s) (hT : zh2 H k B ps) (hk : 1 ≤ k) {s' : Shared} (kk : ∀ b o,s.heap.get? b = some o → s'.heap.get? b = some o) : ∃ fs : List Value,PySem.W.KatTups s'.heap (ps.map fun q => Value.ref q.1) fs ∧ fs.length = ps.length ∧ ∀ v ∈ fs,∃ n t,v = Value.int n t:=by
 induction ps with
 | nil => exact ⟨[],trivial,rfl,fun v hv => by cases hv⟩
 | cons q ps ih =>
  obtain ⟨fs,h1,h2,h3⟩:=ih fun q' hq' => hT q' (List.mem_cons_of_mem _ hq')
  obtain ⟨hq,hl,_⟩:=hT q (by simp)
  obtain ⟨o,its,n,ho,hc,hd,hi⟩:=ze0 I hq
  have hlen:=hi.length
  obtain ⟨m,ms,e⟩ : ∃ m ms,q.2 = m :: ms:=by
   cases e : q.2 with
   | nil => rw [e] at hl; simp at hl; omega
   | cons m ms => exact ⟨m,ms,rfl⟩
  rw [e] at hi
  cases e2 : its.toList with
  | nil => rw [e2] at hi; cases hi
  | cons f fr =>
   rw [e2] at hi
   cases hi with
   | cons _ t hi =>
    refine ⟨.int m t :: fs,PySem.W.KatTups.cons (kk _ _ ho) hc hd ?_ h1,by simp [h2],fun v hv => ?_⟩
    ·rw [← Array.getElem?_toList,e2]
     rfl
    ·rcases (List.mem_cons.mp hv) with rfl | hv
     ·exact ⟨m,t,rfl⟩
     ·exact h3 v hv
theorem zew : ∀ ms : List Int,zfR ms ms = false
 | [] => rfl
 | m :: ms => by rw [zb3,if_pos rfl,zew ms]
theorem zjh (I : Inv X pins σ H s) (hT : zh2 H k B ps) (hB : 1 ≤ B) {s' : Shared} {A' : Around} (kk : ∀ b o,s.heap.get? b = some o → s'.heap.get? b = some o) :
  Cmp X.prog X.w A' s' (tuples' true) (fun p => num B (zch H p.1)) (pairsOf (ps.map fun q => Value.ref q.1)):=by
 intro x y hx hy Q E hQ
 obtain ⟨qx,mx,ex⟩:=List.mem_map.mp (zcN hx).1
 obtain ⟨qy,my,ey⟩:=List.mem_map.mp (zcN hy).1
 obtain ⟨hx1,hx2,hx3⟩:=hT qx mx
 obtain ⟨hy1,hy2,hy3⟩:=hT qy my
 obtain ⟨ox,ix,nx,gx,cx,dx,ax⟩:=ze0 I hx1
 obtain ⟨oy,iy,ny,gy,cy,dy,ay⟩:=ze0 I hy1
 have ev : decide ((fun p : Keyed => num B (zch H p.1)) x < (fun p : Keyed => num B (zch H p.1)) y) = zfR qx.2 qy.2:=by
  rw [zg7 hB (hx2.trans hy2.symm) hx3 hy3,← zdK hx1,← zdK hy1]
  simp only [ex,ey]
 rw [ev] at hQ
 rw [← ex,← ey]
 refine PySem.W.kat_lt (kk _ _ gx) dx (kk _ _ gy) dy (zg8 0 ax ay (hx2.trans hy2.symm) ?_)
 have hsz : decide (ix.size < iy.size) = false:=by
  have e1:=ax.length
  have e2:=ay.length
  rw [Array.length_toList] at e1 e2
  exact decide_eq_false (by omega)
 rw [hsz]
 by_cases e : qx.2 = qy.2
 ·rw [if_pos e]
  rw [e,zew] at hQ
  exact hQ
 ·rw [if_neg e]
  exact hQ
theorem zfU (hT : zh2 H k B ps) {out : Array Value} (hp : out.toList.Perm (ps.map fun q => Value.ref q.1)) (hs : out.toList.Pairwise fun x y => num B (zch H x) ≤ num B (zch H y)) :
  ∃ ps' : List (Addr × List Int),ps'.Perm ps ∧ (ps'.Pairwise fun a b => num B a.2 ≤ num B b.2) ∧ out.toList = ps'.map fun q => Value.ref q.1:=by
 let g : Value → Addr × List Int:=fun v => match v with
  | .ref a => (a,zch H (.ref a))
  | _ => (0,[])
 have hg : ∀ q ∈ ps,g (.ref q.1) = q:=fun q hq => Prod.ext rfl (zdK (hT q hq).1)
 have hv : ∀ v ∈ out.toList,∃ q ∈ ps,v = .ref q.1:=fun v hv => by
  obtain ⟨q,hq,e⟩:=List.mem_map.mp (hp.mem_iff.mp hv)
  exact ⟨q,hq,e.symm⟩
 refine ⟨out.toList.map g,?_,?_,?_⟩
 ·refine (hp.map g).trans ?_
  rw [List.map_map]
  have : ps.map (g ∘ fun q => Value.ref q.1) = ps:=by
   conv => rhs; rw [← List.map_id ps]
   exact List.map_congr_left fun q hq => hg q hq
  rw [this]
 ·rw [List.pairwise_map]
  refine List.Pairwise.imp_of_mem (fun {x y} hx hy h => ?_) hs
  obtain ⟨q,hq,rfl⟩:=hv x hx
  obtain ⟨q',hq',rfl⟩:=hv y hy
  exact h
 ·rw [List.map_map]
  conv => lhs; rw [← List.map_id out.toList]
  refine List.map_congr_left fun v hv' => ?_
  obtain ⟨q,hq,rfl⟩:=hv v hv'
  rfl
end
theorem zex {M : Model} {h : Heap} {n : Int} {t : Tok} : PySem.W.Looks M h (typeOf (.int n t)) (.type "int"):=PySem.W.Looks.of_pure rfl
theorem zj8 {X : Cx} {pins : List (Addr × Obj)} {σ : St} {H : Hp} {s : Shared} {d : Addr} {kvs : List (List Key × V)} {mss : List (List Int)} (I : Inv X pins σ H s) (hd : H d = some (.dT kvs)) (hk : kvs.map (·.1) = mss.map (·.map Sum.inl)) :
  (d == sysModules) = false ∧ kvs.length ≤ sizeLine ∧ ∃ (ps : List (Addr × List Int)) (es : Array DictEntry) (ep : Nat),zc1 s.heap d es ep ∧ es.toList.map (·.key) = (ps.map fun q => Value.ref q.1) ∧ ps.map (·.2) = mss ∧ ∀ q ∈ ps,H q.1 = some (.tup (q.2.map V.int)):=by
 obtain ⟨hz,hs,xs,hp,o,es,ep,ho,hx,he,hes,hnd⟩:=I.hok d _ hd
 refine ⟨hs,hz,?_⟩
 have key : ∀ {kvs : List (List Key × V)} {xs : List (List Key × Addr × Value)} {mss : List (List Int)},Paired (fun (p : List Key × V) (q : List Key × Addr × Value) => p.1 = q.1 ∧ H q.2.1 = some (.tup (p.1.map kV)) ∧ RelV p.2 q.2.2) kvs xs → kvs.map (·.1) = mss.map (·.map Sum.inl) →
   ∃ ps : List (Addr × List Int),xs.map (fun x => Value.ref x.2.1) = (ps.map fun q => Value.ref q.1) ∧ ps.map (·.2) = mss ∧ ∀ q ∈ ps,H q.1 = some (.tup (q.2.map V.int)):=by
  intro kvs xs mss hp
  induction hp generalizing mss with
  | nil =>
   intro e
   cases mss with
   | nil => exact ⟨[],rfl,rfl,fun q hq => by cases hq⟩
   | cons m mss => simp at e
  | @cons x y l1 l2 h1 h2 ih =>
   intro e
   cases mss with
   | nil => simp at e
   | cons m mss =>
    rw [List.map_cons,List.map_cons] at e
    obtain ⟨e1,e2⟩:=List.cons.inj e
    obtain ⟨ps,a1,a2,a3⟩:=ih e2
    obtain ⟨_,h12,_⟩:=h1
    refine ⟨(y.2.1,m) :: ps,by rw [List.map_cons,List.map_cons,a1],by rw [List.map_cons,a2],fun q hq => ?_⟩
    rcases (List.mem_cons.mp hq) with rfl | hq
    ·rw [h12,e1,List.map_map]
     rfl
    ·exact a3 q hq
 obtain ⟨ps,a1,a2,a3⟩:=key hp hk
 refine ⟨ps,es,ep,⟨o,ho,hx,he⟩,?_,a2,a3⟩
 rw [hes,List.map_map,← a1]
 rfl
theorem ze1 {X : Cx} (hc : X.calm = true) : zbh X (.builtin "sorted") (fun xs H Q => ∃ (d : Addr) (k : Nat) (B : Int) (kvs : List (List Key × V)) (mss : List (List Int)),xs = [.ref d] ∧ H d = some (.dT kvs) ∧ kvs.map (·.1) = mss.map (·.map Sum.inl) ∧ (∀ ms ∈ mss,ms.length = k ∧ ∀ n ∈ ms,0 ≤ n ∧ n < B) ∧ 1 ≤ k ∧ 1 ≤ B ∧
  ∀ (l : Addr) (ps' : List (Addr × List Int)),H l = none → (ps'.map (·.2)).Perm mss → (ps'.Pairwise fun a b => num B a.2 ≤ num B b.2) → (∀ q ∈ ps',H q.1 = some (.tup (q.2.map V.int))) → Q (.ref l) (upd H l (.lst (ps'.map fun q => V.ref q.1)))):=by
 intro pins s σ H xs us Q I r h
 obtain ⟨d,k,B,kvs,mss,rfl,hd,hkm,hrg,hk,hB,q⟩:=h
 obtain ⟨u,rfl,rx⟩:=vals1 r
 cases rx
 obtain ⟨hs,hz,ps,es,ep,hraw,hek,hps,hH⟩:=zj8 I hd hkm
 have hT : zh2 H k B ps:=fun q' hq' => ⟨hH q' hq',hrg q'.2 (by rw [← hps]; exact List.mem_map_of_mem hq')⟩
 have hlp : ps.length = kvs.length:=by
  have e1:=congrArg List.length hps
  have e2:=congrArg List.length hkm
  rw [List.length_map] at e1
  rw [List.length_map,List.length_map] at e2
  omega
 have hes : es.size = ps.length:=by
  have:=congrArg List.length hek
  rw [List.length_map,List.length_map,Array.length_toList] at this
  exact this
 refine zet (vs:=ps.map fun q => Value.ref q.1) (κ:=tuples' true) (val:=fun p => num B (zch H p.1)) (by rw [List.length_map]; omega) (fun R hR => ?_) (fun s' kk h2 A' Q' E' hq' => ?_) (fun s' A' kk => zjh I hT hB kk) fun h' tk out e D kk hD hlst hp hs => ?_
 ·refine PySem.W.kdu_collect (zj7 (es:=es) (ep:=ep) hs) (by simp [I.ok.hd hc]) hraw (by omega) fun h' tk acc kk hacc => ?_
  have : acc.toList = ps.map fun q => Value.ref q.1:=by
   rw [← hek]
   refine List.ext_getElem? fun j => ?_
   by_cases hj : j < es.size
   ·have hja : j < acc.size:=by rw [hacc.1]; exact hj
    obtain ⟨e',h1,h2⟩:=hacc.2 j acc[j] (getElem?_pos acc j hja)
    rw [Array.getElem?_toList,getElem?_pos acc j hja,List.getElem?_map,Array.getElem?_toList,h1,h2]
    rfl
   ·rw [List.getElem?_eq_none (by rw [Array.length_toList,hacc.1]; omega),List.getElem?_eq_none (by rw [List.length_map,Array.length_toList]; omega)]
  rw [this]
  exact hR h' tk kk
 ·obtain ⟨fs,k1,k2,k3⟩:=zjg I hT hk kk
  exact PySem.W.kat_kind (T:=.type "int") k1 (by rw [List.length_map] at h2; omega) (fun v hv => by obtain ⟨n,t,rfl⟩:=k3 v hv; exact zex) rfl hq'
 ·obtain ⟨ps',p1,p2,p3⟩:=zfU hT hp hs
  have hl:=p1.length_eq
  obtain ⟨hn,I2⟩:=I.above (tk:=tk) (D:=D) (o:=.lst (ps'.map fun q => V.ref q.1)) kk hD ⟨by rw [List.length_map]; omega,ps'.map fun q => Value.ref q.1,e,zbI ps',by rw [← p3]; exact hlst⟩
  exact ⟨.ref D,_,I2,rfl,q D ps' hn (by rw [← hps]; exact p1.map _) p2 fun q' hq' => (hT q' (p1.mem_iff.mp hq')).1⟩
theorem ze2 {X : Cx} : zbh X (.builtin "sorted") (fun xs H Q => ∃ (p : Addr) (k : Nat) (B : Int) (ps : List (Addr × List Int)),xs = [.ref p] ∧ SqL X.K H p (ps.map fun q => V.ref q.1) ∧ zh2 H k B ps ∧ 1 ≤ k ∧ 1 ≤ B ∧
  ∀ (l : Addr) (ps' : List (Addr × List Int)),H l = none → ps'.Perm ps → (ps'.Pairwise fun a b => num B a.2 ≤ num B b.2) → Q (.ref l) (upd H l (.lst (ps'.map fun q => V.ref q.1)))):=by
 intro pins s σ H xs us Q I r h
 obtain ⟨p,k,B,ps,rfl,hq,hT,hk,hB,q⟩:=h
 obtain ⟨u,rfl,rx⟩:=vals1 r
 cases rx
 obtain ⟨its,rv,pl,hz⟩:=I.list hq
 have ev:=zeu rv
 subst ev
 rw [List.length_map] at hz
 refine zet (vs:=ps.map fun q => Value.ref q.1) (κ:=tuples' true) (val:=fun p => num B (zch H p.1)) (by rw [List.length_map]; exact hz) (fun R hR => ?_) (fun s' kk h2 A' Q' E' hq' => ?_) (fun s' A' kk => zjh I hT hB kk) fun h' tk out e D kk hD hlst hp hs => ?_
 ·exact collect_list pl.isList (hR _ _ fun b o e => (Heap.get?_update_ne _ _ _ _ (Nat.ne_of_lt (Heap.lt_size e))).trans (Heap.get?_push_of_some _ e)) (by rw [List.length_map]; exact hz)
 ·obtain ⟨fs,k1,k2,k3⟩:=zjg I hT hk kk
  exact PySem.W.kat_kind (T:=.type "int") k1 (by rw [List.length_map] at h2; omega) (fun v hv => by obtain ⟨n,t,rfl⟩:=k3 v hv; exact zex) rfl hq'
 ·obtain ⟨ps',p1,p2,p3⟩:=zfU hT hp hs
  have hl:=p1.length_eq
  obtain ⟨hn,I2⟩:=I.above (tk:=tk) (D:=D) (o:=.lst (ps'.map fun q => V.ref q.1)) kk hD ⟨by rw [List.length_map]; omega,ps'.map fun q => Value.ref q.1,e,zbI ps',by rw [← p3]; exact hlst⟩
  exact ⟨.ref D,_,I2,rfl,q D ps' hn p1 p2⟩
end L2
end
section
set_option maxHeartbeats 3999000
namespace L2
open PySem PySem.Spec PyProof.Rows
section
variable {X : Cx} {elt t1 i1 t2 i2 : Expr} {f1 f2 : List Expr} {scope : Scope} {pos : Pos} {N' : List Str} {ix : List (Option Nat)} {js1 js2 : List Nat} {g1 g2 : TG} {ts1 ts2 : TT} {te : TE} {wi1 wi2 : TI}
theorem zln (hc : X.calm = true) (gs2 : GS js2 g2) (hi2 : ∀ s₃ H₃ ex pins,PI (zF X N' scope s₃ H₃ ex pins) t2 i2 wi2)
  (hg2 : ∀ s₃ H₃ ex pins,PG (zF X N' scope s₃ H₃ ex pins) t2 g2) (ht2 : ∀ s₃ H₃ ex pins,zcZ (zF X N' scope s₃ H₃ ex pins) f2 ts2) (he : ∀ s₃ H₃ ex pins,PE (zF X N' scope s₃ H₃ ex pins) elt te)
  (hs2 : ∀ s₃ H₃ ex pins x,foldedSetIterable i2 (zF X N' scope s₃ H₃ ex pins).env x = pure x) :
  ∀ s₃ H₃ ex pins D,PM (zF X N' scope s₃ H₃ ex pins) D js2 ((fun D env => zgY (.ListComp elt [⟨t1,i1,f1,0⟩,⟨t2,i2,f2,0⟩] scope pos) i2 1 (.ref D) env) D (zF X N' scope s₃ H₃ ex pins).env) (zi3 wi2 g2 ts2 (zi2 te)):=by
 intro s₃ H₃ ex pins D
 have h:=zlh (Y:=zF X N' scope s₃ H₃ ex pins) (D:=D) (js:=js2) (js':=[]) (elt:=elt) (gens:=[⟨t1,i1,f1,0⟩,⟨t2,i2,f2,0⟩]) (scope:=scope) (pos:=pos) (d:=1) (p:=i2.pos) hc rfl gs2 (fun _ _ z => by cases z) (hi2 s₃ H₃ ex pins) (hg2 s₃ H₃ ex pins) (ht2 s₃ H₃ ex pins) (zlg rfl (he s₃ H₃ ex pins)) rfl (fun it => zlj it D _) (hs2 s₃ H₃ ex pins)
 rw [List.append_nil] at h
 exact h
theorem zgv {i : Nat} {x : Str} {pos' spos : Pos} (hN : X.N.Nodup) (hxi : X.N[i]? = some x) (hx : Loc X.env.scope x) (SC : CompSc X N' ix scope) (hc : X.calm = true) (gs1 : GS js1 g1) (gs2 : GS js2 g2) (hdis : ∀ j ∈ js1,j ∉ js2) (hjs : ∀ j ∈ js1 ++ js2,ix[j]? = some none) (hi1 : PI X t1 i1 wi1)
  (hg1 : ∀ s₃ H₃ ex pins,PG (zF X N' scope s₃ H₃ ex pins) t1 g1) (ht1 : ∀ s₃ H₃ ex pins,zcZ (zF X N' scope s₃ H₃ ex pins) f1 ts1) (hi2 : ∀ s₃ H₃ ex pins,PI (zF X N' scope s₃ H₃ ex pins) t2 i2 wi2)
  (hg2 : ∀ s₃ H₃ ex pins,PG (zF X N' scope s₃ H₃ ex pins) t2 g2) (ht2 : ∀ s₃ H₃ ex pins,zcZ (zF X N' scope s₃ H₃ ex pins) f2 ts2) (he : ∀ s₃ H₃ ex pins,PE (zF X N' scope s₃ H₃ ex pins) elt te)
  (hsw : swapsWith (.ListComp elt [⟨t1,i1,f1,0⟩,⟨t2,i2,f2,0⟩] scope pos) (some (.Name x pos')) spos.line X.env = pure true:=by rfl)
  (hs : ∀ x,foldedSetIterable i1 X.env x = pure x:=by intro _; rfl) (hs2 : ∀ s₃ H₃ ex pins x,foldedSetIterable i2 (zF X N' scope s₃ H₃ ex pins).env x = pure x:=by intros; rfl) (hf : X.fn x = true ∨ X.env.scope.names.lookup x = some .local:=by first | exact .inl rfl | exact .inr rfl | assumption) :
  PS X (.Assign [.Name x pos'] (.ListComp elt [⟨t1,i1,f1,0⟩,⟨t2,i2,f2,0⟩] scope pos) spos) (zdU (zi4 ix wi1 g1 ts1 (zi3 wi2 g2 ts2 (zi2 te))) (zaz i)) :=
 zfL hN hxi hx SC hc gs1 hdis hjs hi1 hg1 ht1 (zln hc gs2 hi2 hg2 ht2 he hs2) (fun it D env => zli it D env) hsw hs hf
end
theorem zkA {J : It} {n : Nat} {g : TG} {ts : TT} {tm : TM} {σ0 : St} {Q : List V → Hp → Prop} {ys : List V} {H : Hp} (Pv : Nat → List V → Hp → Prop) (h0 : Pv 0 ys H) (hgo : ∀ i ys H,i < n → Pv i ys H → J.go i H) (hst : ∀ ys H,Pv n ys H → J.stop n H)
  (hs : ∀ i x ys H H',i < n → Pv i ys H → J.yld i H x H' → g x σ0 H' fun σ2 H2 => ts σ2 H2 fun b H3 => if b = true then tm ys σ2 H3 (Pv (i + 1)) else Pv (i + 1) ys H3)
  (hd : ∀ ys H,Pv n ys H → Q ys H) : cIn g ts tm σ0 J Q ys H:=by
 refine ⟨fun i m ys H => m = n - i ∧ i ≤ n ∧ Pv i ys H,⟨n,by simp,Nat.zero_le _,h0⟩,?_⟩
 rintro i m ys H ⟨rfl,hi,p⟩
 by_cases hlt : i < n
 ·exact .inr ⟨hgo i ys H hlt p,Pv (i + 1),fun ys' H' p' => ⟨n - (i + 1),by omega,rfl,hlt,p'⟩,fun x H' y => hs i x ys H H' hlt p y⟩
 ·have e : i = n:=by omega
  subst e
  exact .inl ⟨hst ys H p,hd ys H p⟩
end L2
end
section
set_option maxHeartbeats 3999000
namespace L2
open PySem PySem.Spec PyProof.Rows
section
variable {X : Cx} {x : Str} {S : Addr} {body suite : List Stmt} {b₀ : Stmt} {tb : XK → TS} {th : TS} {np hpos pos : Pos}
end
end L2
end
section
namespace L2
open PySem PySem.Spec PyProof.Rows
def zlo (sc : Scope) (x : Str) : Bool:=match sc.names.lookup x with
 | some .local => true
 | some .cell => true
 | some .free => true
 | _ => false
theorem zj9 {sc : Scope} {x : Str} (h : zlo sc x = true) : Vis sc x:=by
 unfold zlo at h
 unfold Vis
 cases e : sc.names.lookup x with
 | none => rw [e] at h; cases h
 | some k => cases k <;> simp_all
def pvB (N : List Str) (sc : Scope) (i : Nat) (x : Str) : Bool:=decide (N[i]? = some x) && zlo sc x && !(x == ("__debug__" : Str)) && !(x == ("__classdict__" : Str))
theorem pvx {X : Cx} (i : Nat) {x : Str} {pos : Pos} (h : pvB X.N X.env.scope i x = true) : PE X (.Name x pos) (zlx i):=by
 unfold pvB at h
 simp only [Bool.and_eq_true,Bool.not_eq_true',decide_eq_true_eq] at h
 exact zkG h.1.1.1 (zj9 h.1.1.2) h.1.2 h.2
end L2
end
section
set_option maxHeartbeats 3999000
namespace My
open PySem L2 PyProof.Rows
def nxt {α : Type} (xs : List α) (c : Nat × List α) : List (Nat × List α):=(List.range (xs.length - c.1)).map fun j => (c.1 + j + 1,c.2 ++ xs[c.1 + j]?.toList)
def chs {α : Type} (xs : List α) : Nat → List (Nat × List α)
 | 0 => [(0,[])]
 | m + 1 => (chs xs m).flatMap (nxt xs)
theorem ze3 {α : Type} (xs : List α) (c : Nat × List α) : (nxt xs c).length = xs.length - c.1:=by unfold nxt; rw [List.length_map,List.length_range]
theorem zka {α : Type} {xs : List α} {c : Nat × List α} {j : Nat} {x : α} (h : xs[c.1 + j]? = some x) : (nxt xs c)[j]? = some (c.1 + j + 1,c.2 ++ [x]):=by
 have hj : j < xs.length - c.1:=by
  have:=(List.getElem?_eq_some_iff.mp h).1
  omega
 unfold nxt
 rw [List.getElem?_map,List.getElem?_range hj]
 simp [h]
theorem zha : ∀ r : Nat,((List.range r).map fun j => 2 ^ (r - j - 1)).sum + 1 = 2 ^ r
 | 0 => rfl
 | r + 1 => by
  rw [List.range_succ_eq_map,List.map_cons,List.sum_cons,List.map_map]
  have e : ((List.range r).map ((fun j => 2 ^ (r + 1 - j - 1)) ∘ Nat.succ)) = (List.range r).map fun j => 2 ^ (r - j - 1):=List.map_congr_left fun j _ => by
   show 2 ^ (r + 1 - (j + 1) - 1) = 2 ^ (r - j - 1)
   congr 1
   omega
  rw [e]
  have:=zha r
  rw [Nat.pow_succ]
  show 2 ^ (r + 1 - 0 - 1) + _ + 1 = _
  rw [show r + 1 - 0 - 1 = r from by omega]
  omega
def pot {α : Type} (n : Nat) (cs : List (Nat × List α)) : Nat:=(cs.map fun c => 2 ^ (n - c.1)).sum
theorem zkb {α : Type} (xs : List α) (c : Nat × List α) : pot xs.length (nxt xs c) ≤ 2 ^ (xs.length - c.1):=by
 unfold pot nxt
 rw [List.map_map]
 have e : ((List.range (xs.length - c.1)).map ((fun c : Nat × List α => 2 ^ (xs.length - c.1)) ∘ fun j => (c.1 + j + 1,c.2 ++ xs[c.1 + j]?.toList))) = (List.range (xs.length - c.1)).map fun j => 2 ^ (xs.length - c.1 - j - 1):=List.map_congr_left fun j _ => by
  show 2 ^ (xs.length - (c.1 + j + 1)) = _
  congr 1
  omega
 rw [e]
 have:=zha (xs.length - c.1)
 omega
theorem zfV {α : Type} (xs : List α) : ∀ cs : List (Nat × List α),pot xs.length (cs.flatMap (nxt xs)) ≤ pot xs.length cs
 | [] => Nat.le_refl _
 | c :: cs => by
  have h1:=zkb xs c
  have h2:=zfV xs cs
  rw [List.flatMap_cons]
  unfold pot at h1 h2 ⊢
  rw [List.map_append,List.sum_append,List.map_cons,List.sum_cons]
  omega
theorem zhb {α : Type} (n : Nat) : ∀ cs : List (Nat × List α),cs.length ≤ pot n cs
 | [] => Nat.le_refl _
 | c :: cs => by
  have h:=zhb n cs
  have : 0 < 2 ^ (n - c.1):=Nat.pos_of_ne_zero (by simp)
  unfold pot at h ⊢
  rw [List.map_cons,List.sum_cons,List.length_cons]
  omega
theorem zhc {α : Type} (xs : List α) : ∀ m,pot xs.length (chs xs m) ≤ 2 ^ xs.length
 | 0 => by
  unfold chs pot
  simp
 | m + 1 => Nat.le_trans (zfV xs (chs xs m)) (zhc xs m)
theorem zkc {α : Type} (xs : List α) (m : Nat) : (chs xs m).length ≤ 2 ^ xs.length:=Nat.le_trans (zhb _ _) (zhc xs m)
theorem zcO {α : Type} {xs : List α} (m : Nat) (h : xs.length ≤ 16) : (chs xs m).length ≤ 65536:=Nat.le_trans (zkc xs m) (Nat.le_trans (Nat.pow_le_pow_right (by decide) h) (by decide))
theorem zh3 {α β : Type} {f : α → List β} {l : List α} {i j : Nat} {c : α} (hc : l[i]? = some c) (hj : j < (f c).length) : ((l.take i).flatMap f).length + j < (l.flatMap f).length:=by
 have e : l.flatMap f = (l.take i).flatMap f ++ (f c ++ (l.drop (i + 1)).flatMap f):=by
  conv => lhs; rw [zbF hc]
  rw [List.flatMap_append,List.flatMap_cons]
 rw [e,List.length_append,List.length_append]
 omega
theorem zey {α β : Type} {f : α → List β} {l : List α} {i : Nat} {c : α} (hc : l[i]? = some c) : (l.take (i + 1)).flatMap f = (l.take i).flatMap f ++ f c:=by
 rw [take_snoc hc,List.flatMap_append,List.flatMap_cons,List.flatMap_nil,List.append_nil]
theorem zlp {α : Type} {xs : List α} : ∀ {m : Nat} {c : Nat × List α},c ∈ chs xs m → c.1 ≤ xs.length
 | 0,c,h => by
  unfold chs at h
  rw [List.mem_singleton] at h
  subst h
  exact Nat.zero_le _
 | m + 1,c,h => by
  unfold chs at h
  obtain ⟨c',_,hc⟩:=List.mem_flatMap.mp h
  unfold nxt at hc
  obtain ⟨j,hj,rfl⟩:=List.mem_map.mp hc
  have:=List.mem_range.mp hj
  show c'.1 + j + 1 ≤ xs.length
  omega
theorem zfW {α : Type} {xs : List α} : ∀ {m : Nat} {c : Nat × List α},c ∈ chs xs m → c.2.length ≤ m
 | 0,c,h => by
  unfold chs at h
  rw [List.mem_singleton] at h
  subst h
  exact Nat.le_refl _
 | m + 1,c,h => by
  unfold chs at h
  obtain ⟨c',hm,hc⟩:=List.mem_flatMap.mp h
  have:=zfW hm
  unfold nxt at hc
  obtain ⟨j,hj,rfl⟩:=List.mem_map.mp hc
  show (c'.2 ++ xs[c'.1 + j]?.toList).length ≤ m + 1
  rw [List.length_append]
  have : xs[c'.1 + j]?.toList.length ≤ 1:=by cases xs[c'.1 + j]? <;> simp
  omega
theorem Paired.get {α β : Type} {F : α → β → Prop} : ∀ {l₁ : List α} {l₂ : List β},Paired F l₁ l₂ → ∀ {i : Nat} {a : α},l₁[i]? = some a → ∃ b,l₂[i]? = some b ∧ F a b
 | _,_,.nil,i,a,h => by simp at h
 | _,_,.cons r t,0,a,h => by
  (simp only [List.getElem?_cons_zero,Option.some.injEq] at h)
  subst h
  exact ⟨_,rfl,r⟩
 | _,_,.cons r t,i + 1,a,h => by
  rw [List.getElem?_cons_succ] at h
  obtain ⟨b,hb,f⟩:=Paired.get t h
  exact ⟨b,by rw [List.getElem?_cons_succ]; exact hb,f⟩
def zkd (H : Hp) (t : Addr) (c : Nat × List V) : Prop:=∃ L,H t = some (.tup [.int (c.1 : Int),.ref L]) ∧ H L = some (.lst c.2)
theorem zkd.same {H H' : Hp} (s : zy H H') {t : Addr} {c : Nat × List V} (h : zkd H t c) : zkd H' t c:=let ⟨L,h1,h2⟩:=h; ⟨L,s _ _ h1,s _ _ h2⟩
def zdL (H : Hp) : List Addr → List (Nat × List V) → Prop:=Paired (zkd H)
theorem zdL.same {H H' : Hp} (s : zy H H') {ts : List Addr} {cs : List (Nat × List V)} (h : zdL H ts cs) : zdL H' ts cs:=Paired.mono (fun _ _ z => z.same s) h
def zfX (H : Hp) : List Addr → List (List V) → Prop:=Paired fun l pk => H l = some (.lst pk)
theorem zfX.same {H H' : Hp} (s : zy H H') {ts : List Addr} {cs : List (List V)} (h : zfX H ts cs) : zfX H' ts cs:=Paired.mono (fun _ _ z => s _ _ z) h
def zgw (K : PySem.W.Frag) : Sp:=fun vs H Q _ => ∃ (a : Addr) (m : Nat) (xs : List V),vs = [.ref a,.int (m : Int)] ∧ SqL K H a xs ∧ xs.length ≤ 16 ∧ m ≤ 1000 ∧
 ∀ (l : Addr) (ls : List Addr) (H' : Hp),H l = none → zy H H' → H' l = some (.lst (ls.map V.ref)) → zfX H' ls ((chs xs m).map (·.2)) → Q (.ref l) H'
end My
end
section
set_option maxHeartbeats 3996000
namespace L2
open PySem PySem.Spec PyProof.Rows
theorem zez {X : Cx} (hc : X.calm = true) : zbh X (.builtin "max") (fun xs H Q => ∃ (p : Addr) (ns : List Int),xs = [.ref p] ∧ SqL X.K H p (ns.map V.int) ∧ ns ≠ [] ∧ ∀ M : Int,M ∈ ns → (∀ a ∈ ns,a ≤ M) → Q (.int M) H):=by
 intro pins s σ H xs us Q I r h
 obtain ⟨p,ns,rfl,hq,hn,q⟩:=h
 obtain ⟨u,rfl,rx⟩:=vals1 r
 cases rx
 obtain ⟨its,rv,pl,hz⟩:=I.list hq
 have hi : IntsAre its ns:=by simpa using intsAre_of rv
 (obtain ⟨xs,e⟩:=hi.allInts.items)
 have hns : ns = xs.toList.map (·.1):=by rw [← hi.numsOf,← nums_intItems,← e]
 have hsz : 0 < xs.size:=by
  have h3:=List.length_pos_iff.mpr hn
  rw [hns,List.length_map,Array.length_toList] at h3
  exact h3
 have hl:=pl.isList
 rw [e] at hl
 refine max_intList (I.ok.hd hc) hl hsz fun v h' tk hv hk => ?_
 (obtain ⟨t,rfl⟩:=intItems_at hv)
 (obtain ⟨h1,h2⟩:=argBest_gt (numAt xs) (xs.size - 1))
 refine ⟨.int _,H,I.kept hk,⟨_,rfl⟩,q _ ?_ fun a ha => ?_⟩
 ·(rw [hns,numAt_eq]; exact getD_mem (by rw [List.length_map,Array.length_toList]; omega))
 ·rw [hns] at ha
  (obtain ⟨j,hj,rfl⟩:=mem_getD ha)
  (rw [List.length_map,Array.length_toList] at hj)
  (rw [← numAt_eq]; exact h2 j (by omega))
end L2
end
section
set_option maxHeartbeats 3999000
namespace My
open PySem L2 PyProof.Rows
def top (i : Nat) : Stmt:=PySem.Challenge.pw_slipcurve_k05_nearest.main.body.getD i (.Pass ⟨0,0,0,0⟩)
abbrev zbJ : Stmt:=top 1
abbrev zb4 : Stmt:=top 2
abbrev zaP : Stmt:=top 3
abbrev zdM : Stmt:=top 4
abbrev zb5 : Stmt:=top 5
abbrev zaw : Stmt:=top 19
abbrev zdN : Stmt:=top 20
abbrev zba : Stmt:=top 22
abbrev zaC : Stmt:=top 23
abbrev zaV : Stmt:=top 24
abbrev zcD : Stmt:=top 26
abbrev zb6 : Stmt:=top 27
abbrev zb7 : Stmt:=top 28
abbrev zbX : Stmt:=top 29
abbrev zb8 : Stmt:=top 30
abbrev zax : Stmt:=top 31
abbrev zay : Stmt:=top 32
abbrev zcE : Stmt:=top 33
abbrev zbv : Stmt:=top 34
abbrev zaL : Stmt:=top 35
abbrev zcF : Stmt:=top 36
abbrev za4 : Stmt:=top 37
abbrev zcG : Stmt:=top 38
abbrev zcH : Stmt:=top 39
abbrev zbw : Stmt:=top 40
structure Adr where
 SlipError : Addr
 TooFew : Addr
 NoCurve : Addr
 NoPaper : Addr
 NoPlace : Addr
 NoNumber : Addr
 Heard : Addr
 NotHeard : Addr
 NothingLeft : Addr
 NoText : Addr
 NoRow : Addr
 value_at : Addr
 inverse : Addr
 times_root : Addr
 bent : Addr
 through : Addr
 heard_points : Addr
 fits : Addr
 choices : Addr
 all_through : Addr
 nearest : Addr
 l_cell : Addr
 l_draws : Addr
 l_whole : Addr
 l_code : Addr
 l_value : Addr
 l_through : Addr
 l_polynomial : Addr
 l_row : Addr
 l_fits : Addr
 l_choices : Addr
 l_all : Addr
 l_near : Addr
 l_word : Addr
 l_told : Addr
 law : Addr
structure KW (K : PySem.W.Frag) (t : Adr) (C : Addr) (b0 b1 b2 b3 b4 b5 b6 b7 b8 b9 : Bool) : Prop where
 i0 : PySem.W.kitOne K (.ref C) (.ref t.TooFew) = some b0
 i1 : PySem.W.kitOne K (.ref C) (.ref t.NoCurve) = some b1
 i2 : PySem.W.kitOne K (.ref C) (.ref t.NoPaper) = some b2
 i3 : PySem.W.kitOne K (.ref C) (.ref t.NoPlace) = some b3
 i4 : PySem.W.kitOne K (.ref C) (.ref t.NoNumber) = some b4
 i5 : PySem.W.kitOne K (.ref C) (.ref t.Heard) = some b5
 i6 : PySem.W.kitOne K (.ref C) (.ref t.NotHeard) = some b6
 i7 : PySem.W.kitOne K (.ref C) (.ref t.NothingLeft) = some b7
 i8 : PySem.W.kitOne K (.ref C) (.ref t.NoText) = some b8
 i9 : PySem.W.kitOne K (.ref C) (.ref t.NoRow) = some b9
 iv : PySem.W.kitOne K (.ref C) (.type "ValueError") = some true
 xc : Xc K C
 sl : PySem.W.kitCls K (.ref C) (.ref t.SlipError) = some true
structure Txt (K : PySem.W.Frag) (mg : Str → Option Value) (t : Adr) : Prop where
 len_ : mg "len" = none
 range_ : mg "range" = none
 list_ : mg "list" = none
 tuple_ : mg "tuple" = none
 min_ : mg "min" = none
 max_ : mg "max" = none
 int_ : mg "int" = none
 bool_ : mg "bool" = none
 isinstance_ : mg "isinstance" = none
 zip_ : mg "zip" = none
 enumerate_ : mg "enumerate" = none
 reversed_ : mg "reversed" = none
 sorted_ : mg "sorted" = none
 ValueError_ : mg "ValueError" = none
 x_SlipError : mg "SlipError" = some (.ref t.SlipError)
 x_TooFew : mg "TooFew" = some (.ref t.TooFew)
 x_NoCurve : mg "NoCurve" = some (.ref t.NoCurve)
 x_NoPaper : mg "NoPaper" = some (.ref t.NoPaper)
 x_NoPlace : mg "NoPlace" = some (.ref t.NoPlace)
 x_NoNumber : mg "NoNumber" = some (.ref t.NoNumber)
 x_Heard : mg "Heard" = some (.ref t.Heard)
 x_NotHeard : mg "NotHeard" = some (.ref t.NotHeard)
 x_NothingLeft : mg "NothingLeft" = some (.ref t.NothingLeft)
 x_NoText : mg "NoText" = some (.ref t.NoText)
 x_NoRow : mg "NoRow" = some (.ref t.NoRow)
 xi_TooFew : PySem.W.excIn K t.TooFew ziS "ValueError.__new__" = true
 kw_TooFew : KW K t t.TooFew true false false false false false false false false false
 sb : PySem.W.mroIn K t.SlipError (.type "BaseException") = some true
 m_value_at : mg "value_at" = some (.ref t.value_at)
 m_inverse : mg "inverse" = some (.ref t.inverse)
 m_times_root : mg "times_root" = some (.ref t.times_root)
 m_bent : mg "bent" = some (.ref t.bent)
 m_through : mg "through" = some (.ref t.through)
 m_heard_points : mg "heard_points" = some (.ref t.heard_points)
 m_fits : mg "fits" = some (.ref t.fits)
 m_choices : mg "choices" = some (.ref t.choices)
 m_all_through : mg "all_through" = some (.ref t.all_through)
 m_nearest : mg "nearest" = some (.ref t.nearest)
 m_l_cell : mg "_law_cell" = some (.ref t.l_cell)
 m_l_draws : mg "_law_draws" = some (.ref t.l_draws)
 m_l_whole : mg "_law_whole" = some (.ref t.l_whole)
 m_l_code : mg "_law_code" = some (.ref t.l_code)
 m_l_value : mg "_law_value" = some (.ref t.l_value)
 m_l_through : mg "_law_through" = some (.ref t.l_through)
 m_l_polynomial : mg "_law_polynomial" = some (.ref t.l_polynomial)
 m_l_row : mg "_law_row" = some (.ref t.l_row)
 m_l_fits : mg "_law_fits" = some (.ref t.l_fits)
 m_l_choices : mg "_law_choices" = some (.ref t.l_choices)
 m_l_all : mg "_law_all" = some (.ref t.l_all)
 m_l_near : mg "_law_near" = some (.ref t.l_near)
 m_l_word : mg "_law_word" = some (.ref t.l_word)
 m_l_told : mg "_law_told" = some (.ref t.l_told)
 f_value_at : ∃ fd,Fun K "value_at" "value_at" zbJ t.value_at fd ∧ Binds K fd ["p","polynomial","x"] []
 f_inverse : ∃ fd,Fun K "inverse" "inverse" zb4 t.inverse fd ∧ Binds K fd ["p","number"] []
 f_times_root : ∃ fd,Fun K "times_root" "times_root" zaP t.times_root fd ∧ Binds K fd ["p","polynomial","root"] []
 f_bent : ∃ fd,Fun K "bent" "bent" zdM t.bent fd ∧ Binds K fd ["p","polynomial","vanishing","point"] []
 f_through : ∃ fd,Fun K "through" "through" zb5 t.through fd ∧ Binds K fd ["p","points"] []
 f_heard_points : ∃ fd,Fun K "heard_points" "heard_points" zaw t.heard_points fd ∧ Binds K fd ["code","row"] []
 f_fits : ∃ fd,Fun K "fits" "fits" zdN t.fits fd ∧ Binds K fd ["code","row","polynomial"] []
 f_choices : ∃ fd,Fun K "choices" "choices" zba t.choices fd ∧ Binds K fd ["things","many"] []
 f_all_through : ∃ fd,Fun K "all_through" "all_through" zaC t.all_through fd ∧ Binds K fd ["code","points"] []
 f_nearest : ∃ fd,Fun K "nearest" "nearest" zaV t.nearest fd ∧ Binds K fd ["code","row"] []
 f_l_cell : ∃ fd,Fun K "_law_cell" "_law_cell" zcD t.l_cell fd ∧ Binds K fd ["script","k"] []
 f_l_draws : ∃ fd,Fun K "_law_draws" "_law_draws" zb6 t.l_draws fd ∧ Binds K fd ["script","k","many","base"] []
 f_l_whole : ∃ fd,Fun K "_law_whole" "_law_whole" zb7 t.l_whole fd ∧ Binds K fd ["found"] []
 f_l_code : ∃ fd,Fun K "_law_code" "_law_code" zbX t.l_code fd ∧ Binds K fd ["script","at","most_k","most_n"] []
 f_l_value : ∃ fd,Fun K "_law_value" "_law_value" zb8 t.l_value fd ∧ Binds K fd ["p","polynomial","x"] []
 f_l_through : ∃ fd,Fun K "_law_through" "_law_through" zax t.l_through fd ∧ Binds K fd ["p","points"] []
 f_l_polynomial : ∃ fd,Fun K "_law_polynomial" "_law_polynomial" zay t.l_polynomial fd ∧ Binds K fd ["draws","p","k"] []
 f_l_row : ∃ fd,Fun K "_law_row" "_law_row" zcE t.l_row fd ∧ Binds K fd ["script","at","code"] []
 f_l_fits : ∃ fd,Fun K "_law_fits" "_law_fits" zbv t.l_fits fd ∧ Binds K fd ["code","row","polynomial"] []
 f_l_choices : ∃ fd,Fun K "_law_choices" "_law_choices" zaL t.l_choices fd ∧ Binds K fd ["some","many"] []
 f_l_all : ∃ fd,Fun K "_law_all" "_law_all" zcF t.l_all fd ∧ Binds K fd ["p","k"] []
 f_l_near : ∃ fd,Fun K "_law_near" "_law_near" za4 t.l_near fd ∧ Binds K fd ["code","row","t"] []
 f_l_word : ∃ fd,Fun K "_law_word" "_law_word" zcG t.l_word fd ∧ Binds K fd ["e"] []
 f_l_told : ∃ fd,Fun K "_law_told" "_law_told" zcH t.l_told fd ∧ Binds K fd ["code","row"] []
section
variable {P : Program} {w : World} {K : PySem.W.Frag} {mg : Str → Option Value} {base : Heap} {t : Adr}
theorem zh4 : FnScope ["script","k"] ["script","k"] (zi zcD):=⟨rfl,rfl,rfl,by decide +kernel,rfl,by decide +kernel,by decide +kernel⟩
theorem zh5 {fd : FuncData} (T : Txt K mg t) (F : Fun K "_law_cell" "_law_cell" zcD t.l_cell fd) : FnOk P w K mg base CX0 1 t.l_cell fd ["script","k"] (zhB K):=by
 refine F.ok zh4 (fun vs H Q E h => ?_) (fun cdv A outer s H vs Q E hr h => ?_)
 ·obtain ⟨a,ns,k,rfl,_⟩:=h; rfl
 ·obtain ⟨a,ns,k,rfl,hS,hlen,k0,k1,q⟩:=h
  refine ⟨_,(@zf _ _ _ _ _ (@za7 _ _ _ _ _ _ _ _ (@zD _ _ _ _ _ _ _ _ (@zff _) (@pvx _ 1 _ _ rfl) (@zr _ _ _ _ _ _ _ _ _ (@zB _) (by rfl) T.len_ boot_len (@za _ _ _ _ _ (@pvx _ 0 _ _ rfl) (@zg _) (by rfl)) (by decide) (by decide) (by rfl) (by rfl)) (zN _)) (@zm _ _ _ (@zG _ _ _ _ (@zE _ _ _ _ _ _ _ (@zI _) (@pvx _ 0 _ _ rfl) (@pvx _ 1 _ _ rfl) (fun _ _ => rfl)))) (@zaq _)) (by exact (@zf _ _ _ _ _ (@za7 _ _ _ _ _ _ _ _ (@zD _ _ _ _ _ _ _ _ (@zbQ _) (@zr _ _ _ _ _ _ _ _ _ (@zB _) (by rfl) T.len_ boot_len (@za _ _ _ _ _ (@pvx _ 0 _ _ rfl) (@zg _) (by rfl)) (by decide) (by decide) (by rfl) (by rfl)) (@zh _ _ _ _) (zN _)) (@zm _ _ _ (@zG _ _ _ _ (@zl _ _ _ _ _ _ _ _ (@zag _) (@zl _ _ _ _ _ _ _ _ (@zZ _) (@zh _ _ _ _) (@pvx _ 1 _ _ rfl)) (@zh _ _ _ _)))) (@zaq _)) (by exact (@zm _ _ _ (@zG _ _ _ _ (@zl _ _ _ _ _ _ _ _ (@zag _) (@zl _ _ _ _ _ _ _ _ (@zC _) (@zE _ _ _ _ _ _ _ (@zI _) (@pvx _ 0 _ _ rfl) (@zl _ _ _ _ _ _ _ _ (@zC _) (@pvx _ 1 _ _ rfl) (@zr _ _ _ _ _ _ _ _ _ (@zB _) (by rfl) T.len_ boot_len (@za _ _ _ _ _ (@pvx _ 0 _ _ rfl) (@zg _) (by rfl)) (by decide) (by decide) (by rfl) (by rfl))) (fun _ _ => rfl)) (@zh _ _ _ _)) (@zl _ _ _ _ _ _ _ _ (@zZ _) (@zh _ _ _ _) (@pvx _ 1 _ _ rfl))))))))),?_⟩
  refine ⟨_,rfl,_,rfl,a,_,rfl,.inl hS,_,_,rfl,rfl,_,rfl,?_⟩; rw [List.length_map]
  refine zaQ (fun h => ?_) (fun h => ?_)
  ·have h : k < (ns.length : Int):=by simpa using h
   obtain ⟨c,hc⟩:=zdd k0 h
   exact ⟨_,rfl,_,rfl,a,_,k,_,rfl,rfl,hS,hc,q c⟩
  ·have h : ¬ k < (ns.length : Int):=by simpa using h
   refine ⟨_,rfl,a,_,rfl,.inl hS,rfl,_,rfl,?_⟩
   rw [List.length_map]
   refine zaQ (fun h2 => ?_) (fun h2 => ?_)
   ·exact ⟨_,rfl,_,_,rfl,rfl,.inl ⟨by decide,by decide⟩,_,_,rfl,rfl,q _⟩
   ·have h2 : ¬ V.int (ns.length : Int) = V.int 0:=by simpa using h2
    have hpos : 0 < (ns.length : Int):=by
     have : (ns.length : Int) ≠ 0:=fun z => h2 (by rw [z])
     omega
    have m0:=Int.emod_nonneg k (show (ns.length : Int) ≠ 0 by omega)
    have m1:=Int.emod_lt_of_pos k hpos
    obtain ⟨c,hc⟩:=zdd m0 m1
    refine ⟨_,rfl,_,rfl,_,rfl,a,_,rfl,.inl hS,_,_,rfl,rfl,by rw [List.length_map]; exact hpos,a,_,_,_,rfl,rfl,hS,by rw [List.length_map]; exact hc,_,_,rfl,rfl,(by show (0 : Int) < 1000003; decide),?_⟩
    exact ⟨_,rfl,_,_,rfl,rfl,.inl ⟨by decide,by decide⟩,_,_,rfl,rfl,q _⟩
theorem zT : FnScope ["script","k","many","base","primes","cell","rest","row","j","mash"] ["script","k","many","base"] (zi zb6):=⟨rfl,rfl,rfl,by decide +kernel,rfl,by decide +kernel,by decide +kernel⟩
theorem zdO {fd : FuncData} (T : Txt K mg t) (F : Fun K "_law_draws" "_law_draws" zb6 t.l_draws fd) : FnOk P w K mg base CX0 2 t.l_draws fd ["script","k","many","base"] (zgi K):=by
 obtain ⟨fd_l_cell,F_l_cell,b_l_cell⟩:=T.f_l_cell
 have G_l_cell:=zh5 (P:=P) (w:=w) (base:=base) T F_l_cell
 refine F.ok zT (fun vs H Q E h => ?_) (fun cdv A outer s H vs Q E hr h => ?_)
 ·obtain ⟨a,ns,k,many,base,rfl,_⟩:=h
  rfl
 ·obtain ⟨a,ns,k,many,bs,rfl,hS,hlen,k0,k1,m0,m1,b0,b1,q⟩:=h
  refine ⟨_,(@zf _ _ _ _ _ (@zn _ _ (4) _ _ _ _ zT.nd rfl (Or.inl rfl) (@za5 _ _ _ _ _ (@zce _ _ _ _ _ _ (by exact (@zce _ _ _ _ _ _ (by exact (@zce _ _ _ _ _ _ (by exact (@zce _ _ _ _ _ _ (by exact (@zce _ _ _ _ _ _ (by exact (@za _ _ _ _ _ (@zh _ _ _ _) (@za _ _ _ _ _ (@zh _ _ _ _) (@za _ _ _ _ _ (@zh _ _ _ _) (@zg _) (by rfl)) (by rfl)) (by rfl))))))))))))) (by rfl) (by trivial)) (by exact (@zf _ _ _ _ _ (@zn _ _ (5) _ _ _ _ zT.nd rfl (Or.inl rfl) (@zz _ _ _ _ _ _ _ _ _ _ _ _ _ _ _ _ G_l_cell (hr.mono (by decide)) rfl T.m_l_cell F_l_cell.kp b_l_cell .nil (@zW _) (@za _ _ _ _ _ (@pvx _ 0 _ _ rfl) (@za _ _ _ _ _ (@pvx _ 1 _ _ rfl) (@zg _) (by rfl)) (by rfl)) (by decide) (by rfl) (by rfl)) (by rfl) (by trivial)) (by exact (@zf _ _ _ _ _ (@zn _ _ (6) _ _ _ _ zT.nd rfl (Or.inl rfl) (@zh _ _ _ _) (by rfl) (by trivial)) (by exact (@zf _ _ _ _ _ (@za7 _ _ _ _ _ _ _ _ (@zD _ _ _ _ _ _ _ _ (@zkp _) (@pvx _ 5 _ _ rfl) (@zl _ _ _ _ _ _ _ _ (@zkQ _) (@zh _ _ _ _) (@zh _ _ _ _)) (zN _)) (@zm _ _ _ (@zn _ _ (6) _ _ _ _ zT.nd rfl (Or.inl rfl) (@pvx _ 5 _ _ rfl) (by rfl) (by trivial))) (@zaq _)) (by exact (@zf _ _ _ _ _ (@zn _ _ (7) _ _ _ _ zT.nd rfl (Or.inl rfl) (@zL _ _ _ _ (@zg _)) (by rfl) (by trivial)) (by exact (@zf _ _ _ _ _ (@zaG _ _ _ _ _ _ _ _ PassesOwn.never rfl (@zaa _ _ _ _ _ _ rfl T.range_ (@za _ _ _ _ _ (@pvx _ 2 _ _ rfl) (@zg _) (by rfl)) (by rfl)) (@zj _ _ (8) _ zT.nd rfl (Or.inl rfl) (by trivial)) (@zf _ _ _ _ _ (@zn _ _ (9) _ _ _ _ zT.nd rfl (Or.inl rfl) (@zl _ _ _ _ _ _ _ _ (@zZ _) (@zl _ _ _ _ _ _ _ _ (@zC _) (@pvx _ 5 _ _ rfl) (@zE _ _ _ _ _ _ _ (@za6 _) (@pvx _ 4 _ _ rfl) (@zl _ _ _ _ _ _ _ _ (@zC _) (@pvx _ 8 _ _ rfl) (@zh _ _ _ _)) (fun _ _ => rfl))) (@zl _ _ _ _ _ _ _ _ (@zag _) (@zh _ _ _ _) (@zl _ _ _ _ _ _ _ _ (@zZ _) (@zl _ _ _ _ _ _ _ _ (@zZ _) (@zh _ _ _ _) (@pvx _ 8 _ _ rfl)) (@pvx _ 8 _ _ rfl)))) (by rfl) (by trivial)) (by exact (@zf _ _ _ _ _ (@zn _ _ (9) _ _ _ _ zT.nd rfl (Or.inl rfl) (@zl _ _ _ _ _ _ _ _ (@zag _) (@zl _ _ _ _ _ _ _ _ (@zag _) (@pvx _ 9 _ _ rfl) (@zl _ _ _ _ _ _ _ _ (@zZ _) (@zl _ _ _ _ _ _ _ _ (@zZ _) (@zh _ _ _ _) (@zl _ _ _ _ _ _ _ _ (@zag _) (@pvx _ 8 _ _ rfl) (@zh _ _ _ _))) (@zl _ _ _ _ _ _ _ _ (@zag _) (@pvx _ 8 _ _ rfl) (@zh _ _ _ _)))) (@zl _ _ _ _ _ _ _ _ (@zZ _) (@zh _ _ _ _) (@pvx _ 1 _ _ rfl))) (by rfl) (by trivial)) (by exact (@zf _ _ _ _ _ (@zn _ _ (9) _ _ _ _ zT.nd rfl (Or.inl rfl) (@zl _ _ _ _ _ _ _ _ (@zC _) (@pvx _ 9 _ _ rfl) (@zE _ _ _ _ _ _ _ (@za6 _) (@pvx _ 4 _ _ rfl) (@zl _ _ _ _ _ _ _ _ (@zC _) (@zl _ _ _ _ _ _ _ _ (@zag _) (@zl _ _ _ _ _ _ _ _ (@zZ _) (@zh _ _ _ _) (@pvx _ 8 _ _ rfl)) (@pvx _ 1 _ _ rfl)) (@zh _ _ _ _)) (fun _ _ => rfl))) (by rfl) (by trivial)) (by exact (@zf _ _ _ _ _ (@zn _ _ (9) _ _ _ _ zT.nd rfl (Or.inl rfl) (@zl _ _ _ _ _ _ _ _ (@zC _) (@zl _ _ _ _ _ _ _ _ (@zZ _) (@zl _ _ _ _ _ _ _ _ (@zZ _) (@pvx _ 9 _ _ rfl) (@pvx _ 9 _ _ rfl)) (@pvx _ 9 _ _ rfl)) (@zE _ _ _ _ _ _ _ (@za6 _) (@pvx _ 4 _ _ rfl) (@zl _ _ _ _ _ _ _ _ (@zC _) (@zl _ _ _ _ _ _ _ _ (@zag _) (@pvx _ 8 _ _ rfl) (@zh _ _ _ _)) (@zh _ _ _ _)) (fun _ _ => rfl))) (by rfl) (by trivial)) (by exact (@zf _ _ _ _ _ (@za7 _ _ _ _ _ _ _ _ (@zD _ _ _ _ _ _ _ _ (@ziu _) (@pvx _ 6 _ _ rfl) (@zh _ _ _ _) (zN _)) (@zm _ _ _ (@zn _ _ (9) _ _ _ _ zT.nd rfl (Or.inl rfl) (@pvx _ 6 _ _ rfl) (by rfl) (by trivial))) (@zaq _)) (by exact (@zf _ _ _ _ _ (@zbZ _ _ _ _ (@zcu _ _ _ _ _ _ _ _ _ _ _ _ PySem.F.plainAttrs_list PySem.F.slot_list_append PySem.F.type_list_append (@zb0 _) (@pvx _ 7 _ _ rfl) (@za _ _ _ _ _ (@zl _ _ _ _ _ _ _ _ (@zC _) (@pvx _ 9 _ _ rfl) (@pvx _ 3 _ _ rfl)) (@zg _) (by rfl)) (by rfl) (by rfl) (by rfl) (by rfl) (by rfl)) (by rfl)) (by exact (@zm _ _ _ (@zn _ _ (6) _ _ _ _ zT.nd rfl (Or.inl rfl) (@zl _ _ _ _ _ _ _ _ (@zc7 _) (@pvx _ 6 _ _ rfl) (@pvx _ 3 _ _ rfl)) (by rfl) (by trivial))))))))))))))) (by intro _; rfl)) (by exact (@zm _ _ _ (@zG _ _ _ _ (@pvx _ 7 _ _ rfl))))))))))))))),?_⟩
  refine ⟨by show 8 ≤ sizeLine; rw [sizeLine_eq]; decide,fun tp ht => ?_⟩
  have s1 : zy H (upd H tp (.tup zjO)):=ze ht
  refine ⟨_,rfl,_,rfl,a,ns,k,rfl,s1.seq hS,hlen,k0,k1,fun c => ?_⟩
  refine ⟨_,rfl,_,_,rfl,rfl,⟨by decide,by decide,by decide⟩,_,_,rfl,rfl,_,rfl,?_⟩
  refine zaQ (fun _ => ⟨_,rfl,?_⟩) (fun _ => ?_)
  all_goals
   refine ⟨Nat.zero_le _,fun l hl => ?_⟩
   have hln : H l = none:=zy.free s1 hl
   have htl : tp ≠ l:=zu zb hl
   refine ⟨_,rfl,many,rfl,by omega,by omega,zaS (lo:=0) (n:=many.toNat) (fun i σ H' => ∃ (r : Int) (v8 v9 : Option V) (ds : List Int),σ = [some (.ref a),some (.int k),some (.int many),some (.int bs),some (.ref tp),some (.int c),some (.int r),some (.ref l),v8,v9] ∧ zgR i bs ds ∧ zy H H' ∧ H' tp = some (.tup zjO) ∧ H' l = some (.lst (ds.map V.int)))
    ⟨_,none,none,[],rfl,⟨rfl,by simp⟩,zY s1 hln,by rw [zp htl]; exact zb,zb⟩ ?_ ?_⟩
   ·rintro i σ H2 hi ⟨r,v8,v9,ds,rfl,hd,s2,htp,hrow⟩
    obtain ⟨q1,e1,q1p,q1l⟩:=zdx (0 + (i : Int))
    obtain ⟨q2,e2,q2p,q2l⟩:=zdx (3 * (0 + (i : Int)) + k)
    obtain ⟨q3,e3,q3p,q3l⟩:=zdx (0 + (i : Int) + 5)
    have c1:=Int.emod_nonneg c (show q1 ≠ 0 by omega)
    have c2:=Int.emod_lt_of_pos c q1p
    have hi' : (i : Int) < 1000:=by omega
    refine ⟨_,rfl,_,rfl,_,rfl,_,_,rfl,rfl,(by show (0 : Int) < 8; decide),tp,_,_,_,rfl,rfl,SqT.of htp,e1,_,_,rfl,rfl,q1p,_,rfl,_,_,rfl,rfl,.inl ⟨by decide,by decide⟩,_,rfl,_,_,rfl,rfl,.inl ⟨by omega,by omega⟩,_,_,rfl,rfl,_,_,rfl,rfl,.inl ⟨by omega,by omega⟩,?_⟩
    refine ⟨_,rfl,_,rfl,_,_,rfl,rfl,_,_,rfl,rfl,.inl ⟨by decide,by decide⟩,_,rfl,_,_,rfl,rfl,_,_,rfl,rfl,.inl ⟨by omega,by omega⟩,_,_,rfl,rfl,_,rfl,_,_,rfl,rfl,.inl ⟨by decide,by decide⟩,_,_,rfl,rfl,?_⟩
    refine ⟨_,rfl,_,rfl,_,rfl,_,_,rfl,rfl,.inl ⟨by decide,by decide⟩,_,rfl,_,_,rfl,rfl,_,_,rfl,rfl,(by show (0 : Int) < 8; decide),tp,_,_,_,rfl,rfl,SqT.of htp,e2,_,_,rfl,rfl,q2p,?_⟩
    generalize c % q1 * (48271 + 2 * (0 + (i : Int)) * (0 + (i : Int))) + 7919 * (0 + (i : Int) + 1) * (0 + (i : Int) + 1) + 104729 * k = ms
    have d1:=Int.emod_nonneg ms (show q2 ≠ 0 by omega)
    have d2:=Int.emod_lt_of_pos ms q2p
    refine ⟨_,rfl,_,rfl,_,_,rfl,rfl,.inl ⟨by omega,by omega⟩,_,rfl,_,_,rfl,rfl,.inr ⟨by omega,by omega⟩,_,rfl,_,rfl,_,_,rfl,rfl,_,_,rfl,rfl,(by show (0 : Int) < 8; decide),tp,_,_,_,rfl,rfl,SqT.of htp,e3,_,_,rfl,rfl,q3p,?_⟩
    refine ⟨_,rfl,_,_,rfl,rfl,_,rfl,?_⟩
    have hdl:=hd.1
    refine zaQ (fun _ => ⟨_,rfl,?_⟩) (fun _ => ?_)
    all_goals
     refine ⟨_,rfl,.inl ⟨rfl,_,SqL.of hrow⟩,_,rfl,_,rfl,_,_,rfl,rfl,b0,l,_,_,rfl,rfl,hrow,zP (by rw [List.length_map]; omega),?_⟩
     refine ⟨_,rfl,_,rfl,_,_,rfl,rfl,⟨b0,b1⟩,?_⟩
     refine ⟨_,_,_,ds ++ [_],rfl,⟨by rw [List.length_append,hdl]; rfl,fun d hm => ?_⟩,zY s2 hln,by rw [zp htl]; exact htp,by rw [zb,List.map_append]; rfl⟩; rcases List.mem_append.mp hm with hm | hm
     ·exact hd.2 d hm
     ·have e:=List.mem_singleton.mp hm
      rw [e]
      exact ⟨Int.emod_nonneg _ (by omega),Int.emod_lt_of_pos _ b0⟩
   ·rintro σ H2 ⟨r,v8,v9,ds,rfl,hd,s2,htp,hrow⟩
    exact ⟨_,rfl,q l ds H2 hln s2 hd hrow⟩
theorem zgx : FnScope ["found"] ["found"] (zi zb7):=⟨rfl,rfl,rfl,by decide +kernel,rfl,by decide +kernel,by decide +kernel⟩
theorem zgy {fd : FuncData} (T : Txt K mg t) (F : Fun K "_law_whole" "_law_whole" zb7 t.l_whole fd) : FnOk P w K mg base CX0 1 t.l_whole fd ["found"] (zgk K):=by
 refine F.ok zgx (fun vs H Q E h => ?_) (fun cdv A outer s H vs Q E hr h => ?_)
 ·obtain ⟨i,rfl,_⟩:=h
  rfl
 ·obtain ⟨i,rfl,q⟩:=h
  refine ⟨_,(@zm _ _ _ (@zG _ _ _ _ (@zkI _ _ _ _ _ _ _ (@zr _ _ _ _ _ _ _ _ _ (@zbT _) (by rfl) T.isinstance_ boot_isinstance (@za _ _ _ _ _ (@pvx _ 0 _ _ rfl) (@za _ _ _ _ _ (@zc6 _ _ (.ty "int") _ _ rfl T.int_ boot_int rfl (by decide) (by decide)) (@zg _) (by rfl)) (by rfl)) (by decide) (by decide) (by rfl) (by rfl)) (@zkH _ _ _ _ _ (@zkJ _ _ _ _ (@zr _ _ _ _ _ _ _ _ _ (@zbT _) (by rfl) T.isinstance_ boot_isinstance (@za _ _ _ _ _ (@pvx _ 0 _ _ rfl) (@za _ _ _ _ _ (@zc6 _ _ (.ty "bool") _ _ rfl T.bool_ boot_bool rfl (by decide) (by decide)) (@zg _) (by rfl)) (by rfl)) (by decide) (by decide) (by rfl) (by rfl))))))),?_⟩
  refine ⟨_,rfl,_,_,_,_,rfl,.int i,rfl,_,rfl,zlQ ?_⟩
  exact ⟨_,rfl,_,_,_,_,rfl,.int i,rfl,_,rfl,q⟩
theorem zaW : FnScope ["script","at","most_k","most_n","plan","primes","p","k","many","left"] ["script","at","most_k","most_n"] (zi zbX):=⟨rfl,rfl,rfl,by decide +kernel,rfl,by decide +kernel,by decide +kernel⟩
theorem zh6 {fd : FuncData} (T : Txt K mg t) (F : Fun K "_law_code" "_law_code" zbX t.l_code fd) : FnOk P w K mg base CX0 3 t.l_code fd ["script","at","most_k","most_n"] (zhC K):=by
 obtain ⟨fd_l_draws,F_l_draws,b_l_draws⟩:=T.f_l_draws
 have G_l_draws:=zdO (P:=P) (w:=w) (base:=base) T F_l_draws
 refine F.ok zaW (fun vs H Q E h => ?_) (fun cdv A outer s H vs Q E hr h => ?_)
 ·obtain ⟨a,ns,at',mk,mn,rfl,_⟩:=h
  rfl
 ·obtain ⟨a,ns,at',mk,mn,rfl,hS,hlen,a0,a1,k1,k5,kn,n16,q⟩:=h
  refine ⟨_,(@zf _ _ _ _ _ (@zn _ _ (4) _ _ _ _ zaW.nd rfl (Or.inr rfl) (@zz _ _ _ _ _ _ _ _ _ _ _ _ _ _ _ _ G_l_draws (hr.mono (by decide)) rfl T.m_l_draws F_l_draws.kp b_l_draws .nil (@zW _) (@za _ _ _ _ _ (@pvx _ 0 _ _ rfl) (by exact (@za _ _ _ _ _ (@pvx _ 1 _ _ rfl) (@za _ _ _ _ _ (@zh _ _ _ _) (@za _ _ _ _ _ (@zh _ _ _ _) (@zg _) (by rfl)) (by rfl)) (by rfl))) (by rfl)) (by decide) (by rfl) (by rfl)) (by rfl) (by trivial)) (by exact (by exact (@ziD _ 5 _ _ _ _ _ _ _ [5,7,11,13,17,19,23,29,31,37,41,43,47,53,59,61,67,71,73,79,83,89,97] (by decide +kernel) zaW.nd rfl (Or.inl rfl) (by first | exact .inl rfl | exact .inr rfl) (by exact (@zf _ _ _ _ _ (@zn _ _ (6) _ _ _ _ zaW.nd rfl (Or.inl rfl) (@zE _ _ _ _ _ _ _ (@zI _) (@zL _ _ _ _ (@za _ _ _ _ _ (@zE _ _ _ _ _ _ _ (@zI _) (@pvx _ 5 _ _ rfl) (@zl _ _ _ _ _ _ _ _ (@zC _) (@zE _ _ _ _ _ _ _ (@zI _) (@pvx _ 4 _ _ rfl) (@zh _ _ _ _) (fun _ _ => rfl)) (@zh _ _ _ _)) (fun _ _ => rfl)) (@za _ _ _ _ _ (@zE _ _ _ _ _ _ _ (@zI _) (@pvx _ 5 _ _ rfl) (@zl _ _ _ _ _ _ _ _ (@zC _) (@zE _ _ _ _ _ _ _ (@zI _) (@pvx _ 4 _ _ rfl) (@zh _ _ _ _) (fun _ _ => rfl)) (@zh _ _ _ _)) (fun _ _ => rfl)) (@zg _) (by rfl)) (by rfl))) (@zl _ _ _ _ _ _ _ _ (@zC _) (@zE _ _ _ _ _ _ _ (@zI _) (@pvx _ 4 _ _ rfl) (@zh _ _ _ _) (fun _ _ => rfl)) (@zh _ _ _ _)) (fun _ _ => rfl)) (by rfl) (by trivial)) (by exact (@zf _ _ _ _ _ (@zn _ _ (7) _ _ _ _ zaW.nd rfl (Or.inl rfl) (@zl _ _ _ _ _ _ _ _ (@zag _) (@zh _ _ _ _) (@zl _ _ _ _ _ _ _ _ (@zC _) (@zE _ _ _ _ _ _ _ (@zI _) (@pvx _ 4 _ _ rfl) (@zh _ _ _ _) (fun _ _ => rfl)) (@zr _ _ _ _ _ _ _ _ _ (@zd7 _ rfl) (by rfl) T.min_ boot_min (@za _ _ _ _ _ (@pvx _ 2 _ _ rfl) (@za _ _ _ _ _ (@pvx _ 6 _ _ rfl) (@zg _) (by rfl)) (by rfl)) (by decide) (by decide) (by rfl) (by rfl)))) (by rfl) (by trivial)) (by exact (@zf _ _ _ _ _ (@zn _ _ (8) _ _ _ _ zaW.nd rfl (Or.inl rfl) (@zl _ _ _ _ _ _ _ _ (@zag _) (@pvx _ 7 _ _ rfl) (@zl _ _ _ _ _ _ _ _ (@zC _) (@zE _ _ _ _ _ _ _ (@zI _) (@pvx _ 4 _ _ rfl) (@zh _ _ _ _) (fun _ _ => rfl)) (@zl _ _ _ _ _ _ _ _ (@zag _) (@zl _ _ _ _ _ _ _ _ (@zbP _) (@zr _ _ _ _ _ _ _ _ _ (@zd7 _ rfl) (by rfl) T.min_ boot_min (@za _ _ _ _ _ (@pvx _ 3 _ _ rfl) (@za _ _ _ _ _ (@pvx _ 6 _ _ rfl) (@zg _) (by rfl)) (by rfl)) (by decide) (by decide) (by rfl) (by rfl)) (@pvx _ 7 _ _ rfl)) (@zh _ _ _ _)))) (by rfl) (by trivial)) (by exact (@zf _ _ _ _ _ (@zn _ _ (9) _ _ _ _ zaW.nd rfl (Or.inr rfl) (@zaT _ _ _ _ _ _ _ _ _ (@zdZ _ rfl) (by rfl) T.list_ boot_list (@za _ _ _ _ _ (@zaT _ _ _ _ _ _ _ _ _ (@zfn _) (by rfl) T.range_ boot_range (@za _ _ _ _ _ (@pvx _ 6 _ _ rfl) (@zg _) (by rfl)) (by decide) (by decide) (by rfl) (by rfl)) (@zg _) (by rfl)) (by decide) (by decide) (by rfl) (by rfl)) (by rfl) (by trivial)) (by exact (@zm _ _ _ (@zG _ _ _ _ (@za5 _ _ _ _ _ (@za _ _ _ _ _ (@pvx _ 6 _ _ rfl) (@za _ _ _ _ _ (@pvx _ 7 _ _ rfl) (@za _ _ _ _ _ (@zaT _ _ _ _ _ _ _ _ _ (@zaZ _) (by rfl) T.tuple_ boot_tuple (@za _ _ _ _ _ (@zai _ _ _ _ _ _ _ _ _ _ _ _ _ (CompSc.of (N':=["j","left","plan"]) (ix:=[none,some 9,some 4]) (zi zbX) ["script","at","most_k","most_n","plan","primes","p","k","many","left"] rfl rfl (by decide +kernel)) rfl (@zam _ _ rfl) (@zaa _ _ _ _ _ _ rfl T.range_ (@za _ _ _ _ _ (@pvx _ 8 _ _ rfl) (@zg _) (by rfl)) (by rfl)) (fun _ _ _ _ => (@zj _ _ (0) _ (show (["j","left","plan"] : List Str).Nodup by decide +kernel) rfl (Or.inl rfl) (by trivial))) (fun _ _ _ _ => (@z8 _)) (fun _ _ _ _ => (@zk0 _ (K) _ _ _ _ _ _ _ _ _ _ _ rfl PySem.F.plainAttrs_list PySem.F.slot_list_pop PySem.F.type_list_pop (@ziw _) (@pvx _ 1 _ _ rfl) (@za _ _ _ _ _ (@zl _ _ _ _ _ _ _ _ (@zC _) (@zE _ _ _ _ _ _ _ (@zbc _ (K) rfl) (@pvx _ 2 _ _ rfl) (@zl _ _ _ _ _ _ _ _ (@zag _) (@zh _ _ _ _) (@pvx _ 0 _ _ rfl)) (fun _ _ => rfl)) (@zr _ _ _ _ _ _ _ _ _ (@zan _ (K) rfl) (by rfl) T.len_ boot_len (@za _ _ _ _ _ (@pvx _ 1 _ _ rfl) (@zg _) (by rfl)) (by decide) (by decide) (by rfl) (by rfl))) (@zg _) (by rfl)) (by rfl) (by rfl) (by rfl) (by rfl) (by rfl))) (by intro _; rfl)) (@zg _) (by rfl)) (by decide) (by decide) (by rfl) (by rfl)) (@zg _) (by rfl)) (by rfl)) (by rfl)))))))))))))))))),?_⟩
  refine ⟨_,rfl,_,rfl,a,ns,at',20,27720,rfl,hS,hlen,a0,a1,by decide,by decide,by decide,by decide,fun l ds H1 hl s1 hd hpl => ?_⟩
  have hdl : ds.length = 20:=hd.1
  have dat : ∀ m : Int,0 ≤ m → m < 20 → ∃ c : Int,atI (ds.map V.int) m = some (.int c):=fun m h0 h1 => zdd h0 (by omega)
  refine ⟨by show 23 ≤ sizeLine; rw [sizeLine_eq]; decide,fun pr hpr => ?_⟩
  have hlpr : l ≠ pr:=zu hpl hpr
  obtain ⟨d0,ed0⟩:=dat 0 (by decide) (by decide)
  obtain ⟨d1,ed1⟩:=dat 1 (by decide) (by decide)
  obtain ⟨d2,ed2⟩:=dat 2 (by decide) (by decide)
  obtain ⟨d3,ed3⟩:=dat 3 (by decide) (by decide)
  have hp2 : (upd H1 pr (.lst (zw.map V.int))) l = some (.lst (ds.map V.int)):=by rw [zp hlpr]; exact hpl
  obtain ⟨p1,mp1,ep1⟩:=ziJ (ns:=zw) (k:=d0 % 23) (Int.emod_nonneg _ (by decide)) (Int.emod_lt_of_pos _ (by decide))
  obtain ⟨p2,mp2,ep2⟩:=ziJ (ns:=zw) (k:=d0 % 3) (Int.emod_nonneg _ (by decide)) (by have:=Int.emod_lt_of_pos d0 (show (0 : Int) < 3 by decide); have e : (zw.length : Int) = 23:=rfl; omega)
  obtain ⟨p,ep,hpp⟩:=zk2 (x:=p1) (y:=p2) (m:=d1 % 2) (Int.emod_nonneg _ (by decide)) (Int.emod_lt_of_pos _ (by decide))
  have mp : p ∈ zw:=by rcases hpp with e | e <;> rw [e] <;> assumption
  have rp:=zM mp
  refine ⟨_,rfl,_,rfl,l,_,_,_,rfl,rfl,SqL.of hp2,ed0,_,_,rfl,rfl,(by show (0 : Int) < 23; decide),pr,_,_,_,rfl,rfl,SqL.of zb,ep1,
   _,rfl,_,rfl,l,_,_,_,rfl,rfl,SqL.of hp2,ed0,_,_,rfl,rfl,(by show (0 : Int) < 3; decide),pr,_,_,_,rfl,rfl,SqL.of zb,ep2,zaJ,fun l2 hl2 => ?_⟩
  have hll2 : l ≠ l2:=zu hp2 hl2
  have hp3 : (upd (upd H1 pr (.lst (zw.map V.int))) l2 (.lst [.int p1,.int p2])) l = some (.lst (ds.map V.int)):=by rw [zp hll2]; exact hp2
  refine ⟨_,rfl,l,_,_,_,rfl,rfl,SqL.of hp3,ed1,_,_,rfl,rfl,(by show (0 : Int) < 2; decide),l2,_,_,_,rfl,rfl,SqL.of zb,ep,?_⟩
  have hm1 : (0 : Int) < (if p < mk then p else mk):=by split <;> omega
  have hm2 : (if p < mk then p else mk) ≤ mk:=by split <;> omega
  have hm3 : (if p < mk then p else mk) ≤ p:=by split <;> omega
  refine ⟨_,rfl,l,_,_,_,rfl,rfl,SqL.of hp3,ed2,_,rfl,_,rfl,_,_,rfl,_,_,rfl,rfl,hm1,_,_,rfl,rfl,?_⟩
  generalize (if p < mk then p else mk) = mm at hm1 hm2 hm3 ⊢
  have hk0:=Int.emod_nonneg d2 (show mm ≠ 0 by omega)
  have hk1:=Int.emod_lt_of_pos d2 hm1
  have hn1 : (if p < mn then p else mn) ≤ mn:=by split <;> omega
  have hn2 : (if p < mn then p else mn) ≤ p:=by split <;> omega
  have hn3 : mm ≤ (if p < mn then p else mn):=by split <;> omega
  refine ⟨_,rfl,_,rfl,l,_,_,_,rfl,rfl,SqL.of hp3,ed3,_,rfl,_,rfl,_,_,rfl,_,rfl,_,_,rfl,rfl,_,_,rfl,rfl,_,_,rfl,rfl,(by omega),_,_,rfl,rfl,?_⟩
  generalize (if p < mn then p else mn) = nn at hn1 hn2 hn3 ⊢
  have hq0:=Int.emod_nonneg d3 (show nn - (1 + d2 % mm) + 1 ≠ 0 by omega)
  have hq1:=Int.emod_lt_of_pos d3 (show 0 < nn - (1 + d2 % mm) + 1 by omega)
  refine ⟨_,rfl,p,rfl,fun r hr2 => ⟨r,p,rfl,zb,by omega,by omega,fun lf hlf => ?_⟩⟩
  have hlr : l ≠ r:=zu hp3 hr2
  have hlf1 : l ≠ lf:=by
   refine zu (H:=upd (upd (upd H1 pr (.lst (zw.map V.int))) l2 (.lst [.int p1,.int p2])) r (.rng 0 p)) (o:=.lst (ds.map V.int)) ?_ hlf
   rw [zp hlr]; exact hp3
  have sA : zy H (upd (upd H1 pr (.lst (zw.map V.int))) l2 (.lst [.int p1,.int p2])):=(s1.trans (ze hpr)).trans (ze hl2)
  have sB:=(sA.trans (ze (o:=.rng 0 p) hr2)).trans (ze (o:=.lst ((zbp 0 p.toNat).map V.int)) hlf)
  have hlfH : H lf = none:=(sA.trans (ze (o:=.rng 0 p) hr2)).free hlf
  obtain ⟨nd0,rg0⟩:=zhD p
  refine ⟨_,rfl,_,rfl,_,rfl,_,rfl,by omega,by omega,zU (n:=(1 + d2 % mm + d3 % (nn - (1 + d2 % mm) + 1)).toNat) (fun i ys H' => ∃ xs ls : List Int,ys = xs.map V.int ∧ xs.length = i ∧ zy H H' ∧ H' l = some (.lst (ds.map V.int)) ∧ H' lf = some (.lst (ls.map V.int)) ∧ ls.length + i = p.toNat ∧ (xs ++ ls).Nodup ∧ ∀ y ∈ xs ++ ls,0 ≤ y ∧ y < p)
   ⟨[],zbp 0 p.toNat,rfl,rfl,sB,by rw [zp hlf1,zp hlr]; exact hp3,zb,by rw [zcd]; rfl,by simpa using nd0,by simpa using rg0⟩ (fun i ys H' hi _ => hi) (fun ys H' _ => Nat.le_refl _) ?_ ?_⟩
  ·rintro i x ys H4 H5 hi ⟨xs,ls,rfl,hxl,s4,hpl4,hlf4,hll,nd,rg⟩ ⟨rfl,rfl⟩
   refine gY ?_
   obtain ⟨c,ec⟩:=dat (4 + (0 + (i : Int))) (by omega) (by omega)
   have lpos : 0 < ls.length:=by omega
   have lm : ((ls.map V.int).length : Int) = (ls.length : Int):=by rw [List.length_map]
   have c0:=Int.emod_nonneg c (show (ls.length : Int) ≠ 0 by omega)
   have c1:=Int.emod_lt_of_pos c (show (0 : Int) < ls.length by omega)
   have hsl:=sizeLine_eq
   obtain ⟨y,ey⟩ : ∃ y,ls[(c % (ls.length : Int)).toNat]? = some y:=⟨ls[(c % (ls.length : Int)).toNat]'(by omega),by simp⟩
   refine ⟨_,rfl,.inl ⟨rfl,_,SqL.of hlf4⟩,_,rfl,_,rfl,_,_,rfl,rfl,l,_,_,_,rfl,rfl,SqL.of hpl4,ec,_,rfl,lf,_,rfl,.inl (SqL.of hlf4),_,_,rfl,rfl,(by rw [lm]; omega),lf,_,_,(c % (ls.length : Int)).toNat,.int y,rfl,rfl,hlf4,?_⟩
   rw [lm]
   refine ⟨by omega,by omega,by rw [List.length_map]; exact seqIndex_of c0 c1,by rw [List.getElem?_map,ey]; rfl,zP (by rw [List.length_map]; omega),xs ++ [y],ls.eraseIdx (c % (ls.length : Int)).toNat,by rw [List.map_append]; rfl,by rw [List.length_append,hxl]; rfl,zY s4 hlfH,by rw [zp hlf1]; exact hpl4,by rw [zb,zeo],?_,zjQ ey nd rg⟩
   rw [List.length_eraseIdx]
   split <;> omega
  ·rintro ys H4 D ⟨xs,ls,rfl,hxl,s4,hpl4,hlf4,hll,nd,rg⟩ hD
   refine ⟨D,_,rfl,.inl ⟨SqL.of zb,fun tt htt => ⟨by show 3 ≤ sizeLine; rw [sizeLine_eq]; decide,fun c hc => ?_⟩⟩⟩
   have s5:=(s4.trans (ze (o:=.lst (xs.map V.int)) hD)).trans (ze (o:=.tup (xs.map V.int)) htt)
   refine q c tt p _ xs _ (s5.free hc) (s5.trans (ze hc)) ⟨mp,by omega,by omega,by omega,by omega,(List.nodup_append.mp nd).1,fun y hy => rg y (List.mem_append_left _ hy)⟩ zb ?_
   rw [zp (zu zb hc)]
   exact zb
theorem zaX : FnScope ["p","polynomial","x","total","power","number"] ["p","polynomial","x"] (zi zb8):=⟨rfl,rfl,rfl,by decide +kernel,rfl,by decide +kernel,by decide +kernel⟩
theorem zcq {fd : FuncData} (T : Txt K mg t) (F : Fun K "_law_value" "_law_value" zb8 t.l_value fd) : FnOk P w K mg base CX0 1 t.l_value fd ["p","polynomial","x"] (zgj K):=by
 refine F.ok zaX (fun vs H Q E h => ?_) (fun cdv A outer s H vs Q E hr h => ?_)
 ·obtain ⟨p,x,a,cs,rfl,_⟩:=h
  rfl
 ·obtain ⟨p,x,a,cs,rfl,hS,p0,p1,x0,x1,q⟩:=h
  refine ⟨_,(@zf _ _ _ _ _ (@zn _ _ (3) _ _ _ _ zaX.nd rfl (Or.inl rfl) (@zh _ _ _ _) (by rfl) (by trivial)) (by exact (@zf _ _ _ _ _ (@zn _ _ (4) _ _ _ _ zaX.nd rfl (Or.inl rfl) (@zh _ _ _ _) (by rfl) (by trivial)) (by exact (@zf _ _ _ _ _ (@zaG _ _ _ _ _ _ _ _ PassesOwn.never rfl (@zkZ _ _ _ _ (@pvx _ 1 _ _ rfl)) (@zj _ _ (5) _ zaX.nd rfl (Or.inl rfl) (by trivial)) (@zf _ _ _ _ _ (@zn _ _ (3) _ _ _ _ zaX.nd rfl (Or.inl rfl) (@zl _ _ _ _ _ _ _ _ (@zC _) (@zl _ _ _ _ _ _ _ _ (@zag _) (@pvx _ 3 _ _ rfl) (@zl _ _ _ _ _ _ _ _ (@zZ _) (@pvx _ 5 _ _ rfl) (@pvx _ 4 _ _ rfl))) (@pvx _ 0 _ _ rfl)) (by rfl) (by trivial)) (by exact (@zm _ _ _ (@zn _ _ (4) _ _ _ _ zaX.nd rfl (Or.inl rfl) (@zl _ _ _ _ _ _ _ _ (@zC _) (@zl _ _ _ _ _ _ _ _ (@zZ _) (@pvx _ 4 _ _ rfl) (@pvx _ 2 _ _ rfl)) (@pvx _ 0 _ _ rfl)) (by rfl) (by trivial))))) (by intro _; rfl)) (by exact (@zm _ _ _ (@zG _ _ _ _ (@pvx _ 3 _ _ rfl))))))))),?_⟩
  refine ⟨_,rfl,a,rfl,?_⟩
  rcases hS with hS | hS
  ·refine .inl ⟨⟨_,hS⟩,zbb (K:=K) (a:=a) (xs:=cs.map V.int) (fun i σ H' => H' = H ∧ ∃ (total power : Int) (nb : Option V),σ = [some (.int p),some (.ref a),some (.int x),some (.int total),some (.int power),nb] ∧ 0 ≤ power ∧ power ≤ 97 ∧ lv p x total power (cs.drop i) = lv p x 0 1 cs)
    ⟨rfl,0,1,none,rfl,by decide,by decide,rfl⟩ (fun i σ H' _ ⟨e,_⟩ => by rw [e]; exact hS) ?_ ?_⟩
   ·rintro i y σ H1 hy ⟨rfl,total,power,nb,rfl,w0,w1,hl⟩
    obtain ⟨c,rfl,hc⟩:=zas hy
    have m0:=Int.emod_nonneg (power * x) (show p ≠ 0 by omega)
    have m1:=Int.emod_lt_of_pos (power * x) p0
    refine ⟨_,rfl,_,rfl,_,rfl,_,_,rfl,rfl,.inr ⟨by omega,by omega⟩,_,_,rfl,rfl,_,rfl,_,_,rfl,rfl,p0,?_⟩
    refine ⟨_,rfl,_,rfl,_,_,rfl,rfl,.inl ⟨by omega,by omega⟩,_,rfl,_,_,rfl,rfl,p0,?_⟩
    exact ⟨rfl,_,_,_,rfl,m0,by omega,(zgS hc).symm.trans hl⟩
   ·rintro σ H1 ⟨rfl,total,power,nb,rfl,w0,w1,hl⟩
    rw [List.length_map,List.drop_length] at hl
    have hl : total = lv p x 0 1 cs:=hl
    rw [zgO p0] at hl
    rw [← hl] at q
    exact ⟨_,rfl,q⟩
  ·refine .inr ⟨⟨_,hS⟩,zjD (K:=K) (a:=a) (xs:=cs.map V.int) (fun i σ H' => H' = H ∧ ∃ (total power : Int) (nb : Option V),σ = [some (.int p),some (.ref a),some (.int x),some (.int total),some (.int power),nb] ∧ 0 ≤ power ∧ power ≤ 97 ∧ lv p x total power (cs.drop i) = lv p x 0 1 cs)
    ⟨rfl,0,1,none,rfl,by decide,by decide,rfl⟩ (fun i σ H' _ ⟨e,_⟩ => by rw [e]; exact hS) ?_ ?_⟩
   ·rintro i y σ H1 hy ⟨rfl,total,power,nb,rfl,w0,w1,hl⟩
    obtain ⟨c,rfl,hc⟩:=zas hy
    have m0:=Int.emod_nonneg (power * x) (show p ≠ 0 by omega)
    have m1:=Int.emod_lt_of_pos (power * x) p0
    refine ⟨_,rfl,_,rfl,_,rfl,_,_,rfl,rfl,.inr ⟨by omega,by omega⟩,_,_,rfl,rfl,_,rfl,_,_,rfl,rfl,p0,?_⟩
    refine ⟨_,rfl,_,rfl,_,_,rfl,rfl,.inl ⟨by omega,by omega⟩,_,rfl,_,_,rfl,rfl,p0,?_⟩
    exact ⟨rfl,_,_,_,rfl,m0,by omega,(zgS hc).symm.trans hl⟩
   ·rintro σ H1 ⟨rfl,total,power,nb,rfl,w0,w1,hl⟩
    rw [List.length_map,List.drop_length] at hl
    have hl : total = lv p x 0 1 cs:=hl
    rw [zgO p0] at hl
    rw [← hl] at q
    exact ⟨_,rfl,q⟩
theorem zbl : FnScope ["p","polynomial","x","value","number"] ["p","polynomial","x"] (zi zbJ):=⟨rfl,rfl,rfl,by decide +kernel,rfl,by decide +kernel,by decide +kernel⟩
theorem zcW {fd : FuncData} (T : Txt K mg t) (F : Fun K "value_at" "value_at" zbJ t.value_at fd) : FnOk P w K mg base CX0 1 t.value_at fd ["p","polynomial","x"] (zcR K):=by
 refine F.ok zbl (fun vs H Q E h => ?_) (fun cdv A outer s H vs Q E hr h => ?_)
 ·obtain ⟨p,x,a,cs,rfl,_⟩:=h
  rfl
 ·obtain ⟨p,x,a,cs,rfl,hS,p0,p1,x0,x1,q⟩:=h
  refine ⟨_,(@zf _ _ _ _ _ (@zn _ _ (3) _ _ _ _ zbl.nd rfl (Or.inl rfl) (@zh _ _ _ _) (by rfl) (by trivial)) (by exact (@zf _ _ _ _ _ (@zaG _ _ _ _ _ _ _ _ PassesOwn.never rfl (@zkY _ _ _ _ _ _ rfl T.reversed_ (@za _ _ _ _ _ (@pvx _ 1 _ _ rfl) (@zg _) (by rfl)) (by rfl)) (@zj _ _ (4) _ zbl.nd rfl (Or.inl rfl) (by trivial)) (@zm _ _ _ (@zn _ _ (3) _ _ _ _ zbl.nd rfl (Or.inl rfl) (@zl _ _ _ _ _ _ _ _ (@zC _) (@zl _ _ _ _ _ _ _ _ (@zag _) (@zl _ _ _ _ _ _ _ _ (@zZ _) (@pvx _ 3 _ _ rfl) (@pvx _ 2 _ _ rfl)) (@pvx _ 4 _ _ rfl)) (@pvx _ 0 _ _ rfl)) (by rfl) (by trivial))) (by intro _; rfl)) (by exact (@zm _ _ _ (@zG _ _ _ _ (@pvx _ 3 _ _ rfl))))))),?_⟩
  refine ⟨_,rfl,a,cs.map V.int,rfl,?_⟩
  rcases hS with hS | hS
  ·refine .inl ⟨hS,?_⟩
   rw [List.length_map]
   refine ziz (n:=cs.length) (fun i σ H' => H' = H ∧ ∃ nb,σ = [some (.int p),some (.ref a),some (.int x),some (.int (zt p x (cs.drop (cs.length - i)))),nb]) ⟨rfl,none,by rw [Nat.sub_zero,List.drop_length]; rfl⟩
    (fun i σ H' hi ⟨e,_⟩ => ⟨hi,cs.map V.int,by rw [e]; exact hS,by rw [List.length_map]⟩) (fun σ H' _ => Nat.le_refl _) ?_ ?_
   ·rintro i y σ H1 H2 hi ⟨rfl,nb,rfl⟩ ⟨rfl,hy⟩
    obtain ⟨c,rfl,hc⟩:=zas (hy _ hS)
    have v0:=zbj (x:=x) p0 (cs.drop (cs.length - i))
    have v1:=zbk (x:=x) p0 (cs.drop (cs.length - i))
    refine ⟨_,rfl,_,rfl,_,_,rfl,rfl,.inl ⟨by omega,by omega⟩,_,rfl,_,_,rfl,rfl,_,rfl,_,_,rfl,rfl,p0,?_⟩
    refine ⟨rfl,some (.int c),?_⟩
    rw [zep hi hc]
    show _ = [some (V.int p),_,_,some (V.int ((c + x * zt p x (cs.drop (cs.length - i))) % p)),_]
    rw [Int.add_comm c,Int.mul_comm x]
    rfl
   ·rintro σ H1 ⟨rfl,nb,rfl⟩
    rw [Nat.sub_self,List.drop_zero]
    exact ⟨_,rfl,q⟩
  ·refine .inr ⟨hS,?_⟩
   rw [List.length_map]
   refine ziz (n:=cs.length) (fun i σ H' => H' = H ∧ ∃ nb,σ = [some (.int p),some (.ref a),some (.int x),some (.int (zt p x (cs.drop (cs.length - i)))),nb]) ⟨rfl,none,by rw [Nat.sub_zero,List.drop_length]; rfl⟩
    (fun i σ H' hi ⟨e,_⟩ => ⟨hi,cs.map V.int,by rw [e]; exact hS,by rw [List.length_map]⟩) (fun σ H' _ => Nat.le_refl _) ?_ ?_
   ·rintro i y σ H1 H2 hi ⟨rfl,nb,rfl⟩ ⟨rfl,hy⟩
    obtain ⟨c,rfl,hc⟩:=zas (hy _ hS)
    have v0:=zbj (x:=x) p0 (cs.drop (cs.length - i))
    have v1:=zbk (x:=x) p0 (cs.drop (cs.length - i))
    refine ⟨_,rfl,_,rfl,_,_,rfl,rfl,.inl ⟨by omega,by omega⟩,_,rfl,_,_,rfl,rfl,_,rfl,_,_,rfl,rfl,p0,?_⟩
    refine ⟨rfl,some (.int c),?_⟩
    rw [zep hi hc]
    show _ = [some (V.int p),_,_,some (V.int ((c + x * zt p x (cs.drop (cs.length - i))) % p)),_]
    rw [Int.add_comm c,Int.mul_comm x]
    rfl
   ·rintro σ H1 ⟨rfl,nb,rfl⟩
    rw [Nat.sub_self,List.drop_zero]
    exact ⟨_,rfl,q⟩
def zh7 (K : PySem.W.Frag) : Sp:=fun vs H Q _ => ∃ (a : Addr) (ds : List Int) (p k : Int),vs = [.ref a,.int p,.int k] ∧ SqL K H a (ds.map V.int) ∧ ds.length ≤ 1000 ∧ 0 < p ∧
 ∀ (l : Addr) (poly : List Int) (H' : Hp),H l = none → zy H H' → (poly.length ≤ ds.length ∧ ∀ x ∈ poly,0 ≤ x ∧ x < p) → H' l = some (.tup (poly.map V.int)) → Q (.ref l) H'
theorem zc2 : FnScope ["draws","p","k"] ["draws","p","k"] (zi zay):=⟨rfl,rfl,rfl,by decide +kernel,rfl,by decide +kernel,by decide +kernel⟩
theorem zc3 {fd : FuncData} (T : Txt K mg t) (F : Fun K "_law_polynomial" "_law_polynomial" zay t.l_polynomial fd) : FnOk P w K mg base CX0 1 t.l_polynomial fd ["draws","p","k"] (zh7 K):=by
 refine F.ok zc2 (fun vs H Q E h => ?_) (fun cdv A outer s H vs Q E hr h => ?_)
 ·obtain ⟨a,ds,p,k,rfl,_⟩:=h
  rfl
 ·obtain ⟨a,ds,p,k,rfl,ha,hn,p0,q⟩:=h
  refine ⟨_,(@zm _ _ _ (@zG _ _ _ _ (@zaT _ _ _ _ _ _ _ _ _ (@zaZ _) (by rfl) T.tuple_ boot_tuple (@za _ _ _ _ _ (@zai _ _ _ _ _ _ _ _ _ _ _ _ _ (CompSc.of (N':=["draw","p"]) (ix:=[none,some 1]) (zi zay) ["draws","p","k"] rfl rfl (by decide +kernel)) rfl (@zam _ _ rfl) (@zac _ _ _ _ (@zct _ _ _ _ _ _ _ _ _ _ zdb (@pvx _ 0 _ _ rfl) (@zc9 _) (@zda _ _ _ (@pvx _ 2 _ _ rfl)))) (fun _ _ _ _ => (@zj _ _ (0) _ (show (["draw","p"] : List Str).Nodup by decide +kernel) rfl (Or.inl rfl) (by trivial))) (fun _ _ _ _ => (@z8 _)) (fun _ _ _ _ => (@zl _ _ _ _ _ _ _ _ (@zC _) (@pvx _ 0 _ _ rfl) (@pvx _ 1 _ _ rfl))) (by intro _; rfl)) (@zg _) (by rfl)) (by decide) (by decide) (by rfl) (by rfl)))),?_⟩
  obtain ⟨ms,ems,lms⟩:=zfu ds none (some k)
  refine ⟨_,rfl,_,rfl,_,rfl,a,_,rfl,ha,fun z hz => ?_⟩
  rw [ems]
  have s4:=ze (o:=.lst (ms.map V.int)) hz
  refine ⟨z,rfl,⟨_,SqL.of zb⟩,zhE (K:=K) (xs:=ms.map V.int) (fs:=ms.map fun d => V.int (d % p)) (SqL.of zb) (by rw [List.length_map,List.length_map]) (by rw [List.length_map]; omega) ?_ ?_⟩
  ·intro j x y R B hx hy hR
   obtain ⟨c,_,rfl,rfl⟩:=zfv hx hy
   refine gY ?_
   exact ⟨_,rfl,_,rfl,_,_,rfl,rfl,p0,hR⟩
  intro D hD
  have epol : (ms.map fun d => V.int (d % p)) = (ms.map (· % p)).map V.int:=by rw [List.map_map]; rfl
  rw [epol]
  refine ⟨D,_,rfl,.inl ⟨SqL.of zb,fun po hpo => ?_⟩⟩
  have s5:=s4.trans (ze (o:=.lst ((ms.map (· % p)).map V.int)) hD)
  refine q po _ _ (s5.free hpo) (s5.trans (ze hpo)) ⟨by rw [List.length_map]; exact lms,fun x hx => ?_⟩ zb
  obtain ⟨d,_,rfl⟩:=List.mem_map.mp hx
  exact ⟨Int.emod_nonneg _ (by omega),Int.emod_lt_of_pos _ p0⟩
def zji (K : PySem.W.Frag) : Sp:=fun vs H Q _ => ∃ (a c tt : Addr) (ns : List Int) (at' p k : Int) (pl : List Int),vs = [.ref a,.int at',.ref c] ∧ SqL K H a (ns.map V.int) ∧ ns.length ≤ 63 ∧ 0 ≤ at' ∧ at' ≤ 900 ∧ zbd H c tt p k pl ∧ 0 < p ∧ p ≤ 97 ∧ (∀ x ∈ pl,0 ≤ x ∧ x < p) ∧ pl.length ≤ 16 ∧
 ∀ (l : Addr) (rw : List (Option Int)) (H' : Hp),H l = none → zy H H' → rw.length = pl.length → (∀ z,some z ∈ rw → 0 ≤ z ∧ z < p) → H' l = some (.lst (rw.map enc)) → Q (.ref l) H'
theorem zlq {a b m : Int} (h0 : 0 ≤ m) (h1 : m < 6) (a0 : 0 ≤ a) (a1 : a < 3) (b0 : 0 ≤ b) (b1 : b < 3) : ∃ z : Int,atI [V.int 0,.int 0,.int a,.int b,.int 0,.int 0] m = some (.int z) ∧ 0 ≤ z ∧ z < 3:=by
 have : m = 0 ∨ m = 1 ∨ m = 2 ∨ m = 3 ∨ m = 4 ∨ m = 5:=by omega
 rcases this with e | e | e | e | e | e <;> subst e
 ·exact ⟨0,rfl,by decide,by decide⟩
 ·exact ⟨0,rfl,by decide,by decide⟩
 ·exact ⟨a,rfl,a0,a1⟩
 ·exact ⟨b,rfl,b0,b1⟩
 ·exact ⟨0,rfl,by decide,by decide⟩
 ·exact ⟨0,rfl,by decide,by decide⟩
theorem zke {m : Int} (h0 : 0 ≤ m) (h1 : m < 6) : ∃ z : Int,atI [V.int 4,.int 9,.int 9,.int 9,.int 2,.int 1] m = some (.int z) ∧ 0 < z:=by
 have : m = 0 ∨ m = 1 ∨ m = 2 ∨ m = 3 ∨ m = 4 ∨ m = 5:=by omega
 rcases this with e | e | e | e | e | e <;> subst e <;> exact ⟨_,rfl,by decide⟩
theorem zkf {m : Int} (h0 : 0 ≤ m) (h1 : m < 2) : ∃ z : Int,atI [V.int 9,.int 3] m = some (.int z) ∧ 0 < z:=by
 have : m = 0 ∨ m = 1:=by omega
 rcases this with e | e <;> subst e <;> exact ⟨_,rfl,by decide⟩
theorem zkB (n : Nat) : (List.replicate n [V.non]).flatten = (List.replicate n (none : Option Int)).map enc:=by
 induction n with
 | zero => rfl
 | succ n ih => rw [List.replicate_succ,List.flatten_cons,ih,List.replicate_succ]; rfl
def ze4 (H : Hp) (on : Addr) : Prop:=∃ os : List Addr,os.length = 3 ∧ H on = some (.lst (os.map V.ref)) ∧ ∀ o ∈ os,∃ ms : List Int,H o = some (.tup (ms.map V.int))
theorem ze4.same {H H' : Hp} {on : Addr} (s : zy H H') (h : ze4 H on) : ze4 H' on:=by
 obtain ⟨os,h1,h2,h3⟩:=h
 exact ⟨os,h1,s _ _ h2,fun o ho => let ⟨ms,e⟩:=h3 o ho; ⟨ms,s _ _ e⟩⟩
theorem zjj {p : Int} {rw : List (Option Int)} (h : ∀ z,some z ∈ rw → 0 ≤ z ∧ z < p) : ∀ z,some z ∈ rw ++ [none] → 0 ≤ z ∧ z < p:=by
 intro z hz
 rcases List.mem_append.mp hz with m | m
 ·exact h z m
 ·cases List.mem_singleton.mp m
theorem zfY {p i : Int} {rw : List (Option Int)} (h : ∀ z,some z ∈ rw → 0 ≤ z ∧ z < p) (hi : 0 ≤ i ∧ i < p) : ∀ z,some z ∈ rw ++ [some i] → 0 ≤ z ∧ z < p:=by
 intro z hz
 rcases List.mem_append.mp hz with m | m
 ·exact h z m
 ·cases List.mem_singleton.mp m
  exact hi
theorem zfZ {p x : Int} {cs : List Int} (hp : 0 < p) : 0 ≤ zt p x cs ∧ zt p x cs < p:=⟨zbj hp cs,zbk hp cs⟩
theorem zaf : FnScope ["script","at","code","p","k","places","plan","ones","slips","way","row","number","which","entry"] ["script","at","code"] (zi zcE):=⟨rfl,rfl,rfl,by decide +kernel,rfl,by decide +kernel,by decide +kernel⟩
theorem zjk {fd : FuncData} (T : Txt K mg t) (F : Fun K "_law_row" "_law_row" zcE t.l_row fd) : FnOk P w K mg base CX0 3 t.l_row fd ["script","at","code"] (zji K):=by
 obtain ⟨fd_l_draws,F_l_draws,b_l_draws⟩:=T.f_l_draws
 have G_l_draws:=zdO (P:=P) (w:=w) (base:=base) T F_l_draws
 obtain ⟨fd_l_polynomial,F_l_polynomial,b_l_polynomial⟩:=T.f_l_polynomial
 have G_l_polynomial:=zc3 (P:=P) (w:=w) (base:=base) T F_l_polynomial
 obtain ⟨fd_l_value,F_l_value,b_l_value⟩:=T.f_l_value
 have G_l_value:=zcq (P:=P) (w:=w) (base:=base) T F_l_value
 refine F.ok zaf (fun vs H Q E h => ?_) (fun cdv A outer s H vs Q E hr h => ?_)
 ·obtain ⟨a,c,tt,ns,at',p,k,pl,rfl,_⟩:=h
  rfl
 ·obtain ⟨a,c,tt,ns,at',p,k,pl,rfl,hS,hlen,a0,a1,hc,p0,p1,hpl,hn,q⟩:=h
  refine ⟨_,(@zf _ _ _ _ _ (@zcj _ _ _ _ _ _ (@pvx _ 2 _ _ rfl) (@zbA _ _ _ _ _ _ rfl (@zq _ _ _ _ _ (@zj _ _ (3) _ zaf.nd rfl (Or.inr rfl) (by trivial)) (@zq _ _ _ _ _ (@zj _ _ (4) _ zaf.nd rfl (Or.inr rfl) (by trivial)) (@zq _ _ _ _ _ (@zj _ _ (5) _ zaf.nd rfl (Or.inl rfl) (by trivial)) (@z9 _) (by rfl)) (by rfl)) (by rfl)) (by rfl) (by rfl)) (by rfl) (by rfl) (by rfl)) (by exact (@zf _ _ _ _ _ (@zn _ _ (6) _ _ _ _ zaf.nd rfl (Or.inr rfl) (@zz _ _ _ _ _ _ _ _ _ _ _ _ _ _ _ _ G_l_draws (hr.mono (by decide)) rfl T.m_l_draws F_l_draws.kp b_l_draws .nil (@zW _) (@za _ _ _ _ _ (@pvx _ 0 _ _ rfl) (by exact (@za _ _ _ _ _ (@pvx _ 1 _ _ rfl) (@za _ _ _ _ _ (@zh _ _ _ _) (@za _ _ _ _ _ (@zh _ _ _ _) (@zg _) (by rfl)) (by rfl)) (by rfl))) (by rfl)) (by decide) (by rfl) (by rfl)) (by rfl) (by trivial)) (by exact (@zf _ _ _ _ _ (@zav _ _ _ _ _ _ _ _ _ _ _ _ _ (7) _ _ _ zaf.nd rfl (Or.inl rfl) (CompSc.of (N':=["j","plan","p","k"]) (ix:=[none,some 6,some 3,some 4]) (zi zcE) ["script","at","code","p","k","places","plan","ones","slips","way","row","number","which","entry"] rfl rfl (by decide +kernel)) rfl (@zam _ _ rfl) (@zaa _ _ _ _ _ _ rfl T.range_ (@za _ _ _ _ _ (@zh _ _ _ _) (@zg _) (by rfl)) (by rfl)) (fun _ _ _ _ => (@zj _ _ (0) _ (show (["j","plan","p","k"] : List Str).Nodup by decide +kernel) rfl (Or.inl rfl) (by trivial))) (fun _ _ _ _ => (@z8 _)) (fun _ _ _ _ => (@zz _ _ _ _ _ _ _ _ _ _ _ _ _ _ _ _ G_l_polynomial (hr.mono (by decide)) rfl T.m_l_polynomial F_l_polynomial.kp b_l_polynomial .nil (@zW _) (@za _ _ _ _ _ (@zct _ _ _ _ _ _ _ _ _ _ (ziE (K:=K) rfl) (@pvx _ 1 _ _ rfl) (@zda _ _ _ (@zl _ _ _ _ _ _ _ _ (@zZ _) (@zh _ _ _ _) (@pvx _ 0 _ _ rfl))) (@zc9 _)) (@za _ _ _ _ _ (@pvx _ 2 _ _ rfl) (@za _ _ _ _ _ (@pvx _ 3 _ _ rfl) (@zg _) (by rfl)) (by rfl)) (by rfl)) (by decide) (by rfl) (by rfl))) (by rfl) (by intro _; rfl) (by trivial)) (by exact (@zf _ _ _ _ _ (@zn _ _ (8) _ _ _ _ zaf.nd rfl (Or.inl rfl) (@zz _ _ _ _ _ _ _ _ _ _ _ _ _ _ _ _ G_l_draws (hr.mono (by decide)) rfl T.m_l_draws F_l_draws.kp b_l_draws .nil (@zW _) (@za _ _ _ _ _ (@pvx _ 0 _ _ rfl) (by exact (@za _ _ _ _ _ (@zl _ _ _ _ _ _ _ _ (@zag _) (@pvx _ 1 _ _ rfl) (@zh _ _ _ _)) (@za _ _ _ _ _ (@zh _ _ _ _) (@za _ _ _ _ _ (@zh _ _ _ _) (@zg _) (by rfl)) (by rfl)) (by rfl))) (by rfl)) (by decide) (by rfl) (by rfl)) (by rfl) (by trivial)) (by exact (@zf _ _ _ _ _ (@zn _ _ (9) _ _ _ _ zaf.nd rfl (Or.inl rfl) (@zl _ _ _ _ _ _ _ _ (@zC _) (@zE _ _ _ _ _ _ _ (@zI _) (@pvx _ 8 _ _ rfl) (@zh _ _ _ _) (fun _ _ => rfl)) (@zh _ _ _ _)) (by rfl) (by trivial)) (by exact (@zf _ _ _ _ _ (@zn _ _ (10) _ _ _ _ zaf.nd rfl (Or.inl rfl) (@zL _ _ _ _ (@zg _)) (by rfl) (by trivial)) (by exact (@zf _ _ _ _ _ (@zaG _ _ _ _ _ _ _ _ PassesOwn.never rfl (@zaa _ _ _ _ _ _ rfl T.range_ (@za _ _ _ _ _ (@zr _ _ _ _ _ _ _ _ _ (@zB _) (by rfl) T.len_ boot_len (@za _ _ _ _ _ (@pvx _ 5 _ _ rfl) (@zg _) (by rfl)) (by decide) (by decide) (by rfl) (by rfl)) (@zg _) (by rfl)) (by rfl)) (@zj _ _ (11) _ zaf.nd rfl (Or.inl rfl) (by trivial)) (@zf _ _ _ _ _ (@zn _ _ (12) _ _ _ _ zaf.nd rfl (Or.inl rfl) (@zE _ _ _ _ _ _ _ (@zI _) (@zL _ _ _ _ (@zce _ _ _ _ _ _ (by exact (@zce _ _ _ _ _ _ (by exact (@za _ _ _ _ _ (@zl _ _ _ _ _ _ _ _ (@zC _) (@zE _ _ _ _ _ _ _ (@zI _) (@pvx _ 8 _ _ rfl) (@pvx _ 11 _ _ rfl) (fun _ _ => rfl)) (@zh _ _ _ _)) (by exact (@za _ _ _ _ _ (@zl _ _ _ _ _ _ _ _ (@zC _) (@zE _ _ _ _ _ _ _ (@zI _) (@pvx _ 8 _ _ rfl) (@pvx _ 11 _ _ rfl) (fun _ _ => rfl)) (@zh _ _ _ _)) (@za _ _ _ _ _ (@zh _ _ _ _) (@za _ _ _ _ _ (@zh _ _ _ _) (@zg _) (by rfl)) (by rfl)) (by rfl))) (by rfl))))))) (@pvx _ 9 _ _ rfl) (fun _ _ => rfl)) (by rfl) (by trivial)) (by exact (@zf _ _ _ _ _ (@zn _ _ (13) _ _ _ _ zaf.nd rfl (Or.inl rfl) (@zz _ _ _ _ _ _ _ _ _ _ _ _ _ _ _ _ G_l_value (hr.mono (by decide)) rfl T.m_l_value F_l_value.kp b_l_value .nil (@zW _) (@za _ _ _ _ _ (@pvx _ 3 _ _ rfl) (@za _ _ _ _ _ (@zE _ _ _ _ _ _ _ (@zI _) (@pvx _ 7 _ _ rfl) (@pvx _ 12 _ _ rfl) (fun _ _ => rfl)) (@za _ _ _ _ _ (@zE _ _ _ _ _ _ _ (@za6 _) (@pvx _ 5 _ _ rfl) (@pvx _ 11 _ _ rfl) (fun _ _ => rfl)) (@zg _) (by rfl)) (by rfl)) (by rfl)) (by decide) (by rfl) (by rfl)) (by rfl) (by trivial)) (by exact (@zf _ _ _ _ _ (@za7 _ _ _ _ _ _ _ _ (@zD _ _ _ _ _ _ _ _ (@zbQ _) (@zl _ _ _ _ _ _ _ _ (@zC _) (@zl _ _ _ _ _ _ _ _ (@zc7 _) (@zE _ _ _ _ _ _ _ (@zI _) (@pvx _ 8 _ _ rfl) (@pvx _ 11 _ _ rfl) (fun _ _ => rfl)) (@zh _ _ _ _)) (@zE _ _ _ _ _ _ _ (@zI _) (@zL _ _ _ _ (@zce _ _ _ _ _ _ (by exact (@zce _ _ _ _ _ _ (by exact (@zce _ _ _ _ _ _ (by exact (@za _ _ _ _ _ (@zh _ _ _ _) (@za _ _ _ _ _ (@zh _ _ _ _) (@za _ _ _ _ _ (@zh _ _ _ _) (@zg _) (by rfl)) (by rfl)) (by rfl))))))))) (@pvx _ 9 _ _ rfl) (fun _ _ => rfl))) (@zh _ _ _ _) (zN _)) (@zm _ _ _ (@zn _ _ (13) _ _ _ _ zaf.nd rfl (Or.inl rfl) (@zl _ _ _ _ _ _ _ _ (@zC _) (@zl _ _ _ _ _ _ _ _ (@zc7 _) (@zE _ _ _ _ _ _ _ (@zI _) (@pvx _ 8 _ _ rfl) (@pvx _ 11 _ _ rfl) (fun _ _ => rfl)) (@zh _ _ _ _)) (@pvx _ 3 _ _ rfl)) (by rfl) (by trivial))) (@zaq _)) (by exact (@zf _ _ _ _ _ (@za7 _ _ _ _ _ _ _ _ (@PW.pt _ _ _ (@zik _ _ _ _ _ _ _ (@zD _ _ _ _ _ _ _ _ (@zbQ _) (@zl _ _ _ _ _ _ _ _ (@zC _) (@zl _ _ _ _ _ _ _ _ (@zc7 _) (@zE _ _ _ _ _ _ _ (@zI _) (@pvx _ 8 _ _ rfl) (@pvx _ 11 _ _ rfl) (fun _ _ => rfl)) (@zh _ _ _ _)) (@zE _ _ _ _ _ _ _ (@zI _) (@zL _ _ _ _ (@za _ _ _ _ _ (@zh _ _ _ _) (@za _ _ _ _ _ (@zh _ _ _ _) (@zg _) (by rfl)) (by rfl))) (@zl _ _ _ _ _ _ _ _ (@zC _) (@zE _ _ _ _ _ _ _ (@zI _) (@pvx _ 8 _ _ rfl) (@zh _ _ _ _) (fun _ _ => rfl)) (@zh _ _ _ _)) (fun _ _ => rfl))) (@zh _ _ _ _) (zN _)) (@zgG _ _ _ _ (@zD _ _ _ _ _ _ _ _ (@ziu _) (@zl _ _ _ _ _ _ _ _ (@zC _) (@zE _ _ _ _ _ _ _ (@zI _) (@pvx _ 8 _ _ rfl) (@zh _ _ _ _) (fun _ _ => rfl)) (@zh _ _ _ _)) (@zh _ _ _ _) (zN _))))) (@zm _ _ _ (@zn _ _ (13) _ _ _ _ zaf.nd rfl (Or.inl rfl) (@zbO _ _ _) (by rfl) (by trivial))) (@zaq _)) (by exact (@zm _ _ _ (@zbZ _ _ _ _ (@zcu _ _ _ _ _ _ _ _ _ _ _ _ PySem.F.plainAttrs_list PySem.F.slot_list_append PySem.F.type_list_append (@zb0 _) (@pvx _ 10 _ _ rfl) (@za _ _ _ _ _ (@pvx _ 13 _ _ rfl) (@zg _) (by rfl)) (by rfl) (by rfl) (by rfl) (by rfl) (by rfl)) (by rfl))))))))))) (by intro _; rfl)) (by exact (@zm _ _ _ (@zG _ _ _ _ (@zim _ _ _ _ _ _ _ _ (@zD _ _ _ _ _ _ _ _ (@zbQ _) (@zl _ _ _ _ _ _ _ _ (@zC _) (@zE _ _ _ _ _ _ _ (@zI _) (@pvx _ 8 _ _ rfl) (@zh _ _ _ _) (fun _ _ => rfl)) (@zh _ _ _ _)) (@zh _ _ _ _) (zN _)) (@zl _ _ _ _ _ _ _ _ (@zds _) (@zL _ _ _ _ (@za _ _ _ _ _ (@zbO _ _ _) (@zg _) (by rfl))) (@zr _ _ _ _ _ _ _ _ _ (@zB _) (by rfl) T.len_ boot_len (@za _ _ _ _ _ (@pvx _ 10 _ _ rfl) (@zg _) (by rfl)) (by decide) (by decide) (by rfl) (by rfl))) (@pvx _ 10 _ _ rfl)))))))))))))))))),?_⟩
  have hsl:=sizeLine_eq
  refine ⟨_,rfl,c,_,rfl,SqT.of hc.1,rfl,_,_,rfl,_,_,rfl,_,_,rfl,rfl,?_⟩
  refine ⟨_,rfl,_,rfl,a,ns,at',16,27720,rfl,hS,hlen,a0,by omega,by decide,by decide,by decide,by decide,fun l ds H1 hl s1 hd h1l => ?_⟩
  have hdl : ds.length = 16:=hd.1
  refine ⟨3,rfl,by decide,by decide,zU (n:=3) (fun i ys H' => zy H1 H' ∧ ∃ os : List Addr,os.length = i ∧ ys = os.map V.ref ∧ ∀ o ∈ os,∃ ms : List Int,H' o = some (.tup (ms.map V.int))) ⟨fun _ _ e => e,[],rfl,rfl,by simp⟩ (fun i ys H' hi _ => hi) (fun ys H' _ => Nat.le_refl _) ?_ ?_⟩
  ·rintro i xx ys H4 H5 hi ⟨s4,os,ho,rfl,hos⟩ ⟨rfl,rfl⟩
   refine gY ?_
   refine ⟨_,rfl,_,rfl,_,_,rfl,rfl,.inl ⟨by decide,by decide⟩,_,rfl,l,_,rfl,SqL.of (s4 _ _ h1l),fun z hz => ?_⟩
   obtain ⟨ms,ems,lms⟩:=zfu ds (some (3 * (0 + (i : Int)))) none
   rw [ems]
   refine ⟨_,rfl,_,rfl,z,ms,p,k,rfl,SqL.of zb,by omega,p0,fun po poly H6 hpo s6 _ h6 => ?_⟩
   have s5:=(ze (o:=.lst (ms.map V.int)) hz).trans s6
   refine ⟨zP (by rw [List.length_map]; omega),s4.trans s5,os ++ [po],by rw [List.length_append,ho]; rfl,by rw [List.map_append]; rfl,fun o hm => ?_⟩
   rcases (List.mem_append.mp hm) with hm | hm
   ·obtain ⟨m2,e⟩:=hos o hm
    exact ⟨m2,s5 _ _ e⟩
   ·rw [List.mem_singleton.mp hm]; exact ⟨poly,h6⟩
  ·rintro ys H4 on ⟨s4,os,ho,rfl,hos⟩ hon
   have s5:=s1.trans (s4.trans (ze (o:=.lst (os.map V.ref)) hon))
   have hones : ze4 (upd H4 on (.lst (os.map V.ref))) on:=⟨os,ho,zb,fun o hm => let ⟨ms,e⟩:=hos o hm; ⟨ms,(ze hon) _ _ e⟩⟩
   generalize upd H4 on (.lst (os.map V.ref)) = H5 at s5 hones ⊢
   refine ⟨_,rfl,_,rfl,_,_,rfl,rfl,a,ns,at' + 1,20,27720,rfl,s5.seq hS,hlen,by omega,by omega,by decide,by decide,by decide,by decide,fun sl es H6 hsl6 s6 he h6s => ?_⟩
   have hel : es.length = 20:=he.1
   have her:=he.2
   have eat : ∀ m : Int,0 ≤ m → m < 20 → ∃ c : Int,atI (es.map V.int) m = some (.int c):=fun m h0 h1 => zdd h0 (by omega)
   obtain ⟨d16,e16⟩:=eat 16 (by decide) (by decide)
   obtain ⟨d17,e17⟩:=eat 17 (by decide) (by decide)
   obtain ⟨d18,e18⟩:=eat 18 (by decide) (by decide)
   obtain ⟨d19,e19⟩:=eat 19 (by decide) (by decide)
   have w0:=Int.emod_nonneg d16 (show (6 : Int) ≠ 0 by decide)
   have w1:=Int.emod_lt_of_pos d16 (show (0 : Int) < 6 by decide)
   refine ⟨_,rfl,sl,_,_,_,rfl,rfl,SqL.of h6s,e16,_,_,rfl,rfl,(by show (0 : Int) < 6; decide),?_⟩
   obtain ⟨way,hway⟩ : ∃ way,d16 % 6 = way:=⟨_,rfl⟩
   rw [hway] at w0 w1
   refine ⟨Nat.zero_le _,fun ro hro => ?_⟩
   have hslro : sl ≠ ro:=zu h6s hro
   have hroH : H ro = none:=(s5.trans s6).free hro
   have hro5 : H5 ro = none:=s6.free hro
   refine ⟨_,rfl,tt,_,rfl,.inr (SqT.of ((((s5.trans s6).trans (ze hro))) _ _ hc.2)),_,rfl,by rw [List.length_map]; omega,by rw [List.length_map]; omega,?_⟩
   rw [List.length_map,Int.toNat_natCast]
   refine zaS (lo:=0) (n:=pl.length) (fun i σ H' => ∃ (rw : List (Option Int)) (v11 v12 v13 : Option V),σ = [some (.ref a),some (.int at'),some (.ref c),some (.int p),some (.int k),some (.ref tt),some (.ref l),some (.ref on),some (.ref sl),some (.int way),some (.ref ro),v11,v12,v13] ∧
    rw.length = i ∧ zy H5 H' ∧ H' ro = some (.lst (rw.map enc)) ∧ H' sl = some (.lst (es.map V.int)) ∧ ∀ z,some z ∈ rw → 0 ≤ z ∧ z < p)
    ⟨[],none,none,none,by subst hway; rfl,rfl,s6.trans (ze hro),zb,by rw [zp hslro]; exact h6s,fun z hz => by simp at hz⟩ ?_ ?_
   ·rintro i σ H7 hi ⟨rw,v11,v12,v13,rfl,hrl,s7,h7r,h7s,hrg⟩
    obtain ⟨di,ei⟩:=eat (0 + (i : Int)) (by omega) (by omega)
    obtain ⟨x,hx⟩ : ∃ x,pl[i]? = some x:=⟨pl[i]'hi,by simp⟩
    obtain ⟨x0,x1⟩:=hpl x (List.mem_of_getElem? hx)
    have hxat : atI (pl.map V.int) (0 + (i : Int)) = some (.int x):=by rw [Int.zero_add]; exact zaD (by rw [List.getElem?_map,hx]; rfl)
    have m20:=Int.emod_nonneg di (show (2 : Int) ≠ 0 by decide)
    have m21:=Int.emod_lt_of_pos di (show (0 : Int) < 2 by decide)
    have m30:=Int.emod_nonneg di (show (3 : Int) ≠ 0 by decide)
    have m31:=Int.emod_lt_of_pos di (show (0 : Int) < 3 by decide)
    obtain ⟨wh,ewh,wh0,wh1⟩:=zlq w0 w1 m20 (by omega) m30 m31
    refine ⟨_,rfl,_,rfl,sl,_,_,_,rfl,rfl,SqL.of h7s,ei,_,_,rfl,rfl,(by show (0 : Int) < 2; decide),_,rfl,_,rfl,sl,_,_,_,rfl,rfl,SqL.of h7s,ei,_,_,rfl,rfl,(by show (0 : Int) < 3; decide),by show 6 ≤ sizeLine; omega,fun l6 hl6 => ?_⟩
    refine ⟨_,rfl,l6,_,_,_,rfl,rfl,SqL.of zb,ewh,?_⟩
    have s8:=s7.trans (ze (o:=.lst [.int 0,.int 0,.int (di % 2),.int (di % 3),.int 0,.int 0]) hl6)
    have h8r:=(ze (o:=.lst [.int 0,.int 0,.int (di % 2),.int (di % 3),.int 0,.int 0]) hl6) _ _ h7r
    have h8s:=(ze (o:=.lst [.int 0,.int 0,.int (di % 2),.int (di % 3),.int 0,.int 0]) hl6) _ _ h7s
    obtain ⟨H8,hH8⟩ : ∃ H8,H8 = upd H7 l6 (.lst [.int 0,.int 0,.int (di % 2),.int (di % 3),.int 0,.int 0]):=⟨_,rfl⟩
    rw [← hH8] at s8 h8r h8s ⊢
    have hc8:=hc.same (s5.trans s8)
    obtain ⟨os8,o1,o2,o3⟩:=hones.same s8
    obtain ⟨ow,how⟩ : ∃ ow,os8[wh.toNat]? = some ow:=⟨os8[wh.toNat]'(by omega),by simp⟩
    obtain ⟨mw,hmw⟩:=o3 ow (List.mem_of_getElem? how)
    have hoat : atI (os8.map V.ref) wh = some (.ref ow):=by
     have e : ((wh.toNat : Nat) : Int) = wh:=by omega
     rw [← e]
     exact zaD (by rw [List.getElem?_map,how]; rfl)
    refine ⟨_,rfl,_,rfl,_,rfl,on,_,_,_,rfl,rfl,SqL.of o2,hoat,_,rfl,_,rfl,tt,_,_,_,rfl,rfl,SqT.of hc8.2,hxat,p,x,ow,mw,rfl,.inr (SqT.of hmw),p0,p1,x0,x1,?_⟩
    obtain ⟨z6,ez6,z60⟩:=zke w0 w1
    refine ⟨_,rfl,_,rfl,sl,_,_,_,rfl,rfl,SqL.of h8s,ei,_,_,rfl,rfl,⟨by decide,by decide⟩,by show 6 ≤ sizeLine; omega,fun l7 hl7 => ?_⟩
    have u7:=ze (o:=.lst [.int 4,.int 9,.int 9,.int 9,.int 2,.int 1]) hl7
    refine ⟨_,rfl,l7,_,_,_,rfl,rfl,SqL.of zb,ez6,_,_,rfl,rfl,z60,rfl,_,rfl,?_⟩
    have s9:=s8.trans u7
    have h9r:=u7 _ _ h8r
    have h9s:=u7 _ _ h8s
    generalize upd H8 l7 (.lst [.int 4,.int 9,.int 9,.int 9,.int 2,.int 1]) = H9 at s9 h9r h9s ⊢
    have t0:=Int.emod_nonneg d17 (show (2 : Int) ≠ 0 by decide)
    have t1:=Int.emod_lt_of_pos d17 (show (0 : Int) < 2 by decide)
    obtain ⟨z2,ez2,z20⟩:=zkf t0 t1
    refine zaQ (fun _ => ⟨_,rfl,_,rfl,sl,_,_,_,rfl,rfl,SqL.of h9s,ei,_,_,rfl,rfl,⟨by decide,by decide⟩,_,rfl,_,_,rfl,rfl,p0,?_⟩) (fun _ => ?_)
    all_goals
     refine ⟨_,rfl,_,rfl,sl,_,_,_,rfl,rfl,SqL.of h9s,ei,_,_,rfl,rfl,⟨by decide,by decide⟩,zaJ,fun l8 hl8 => ?_⟩
     have u8:=ze (o:=.lst [.int 9,.int 3]) hl8
     have sX:=s9.trans u8
     have hXr:=u8 _ _ h9r
     have hXs:=u8 _ _ h9s
     refine ⟨_,rfl,sl,_,_,_,rfl,rfl,SqL.of hXs,e17,_,_,rfl,rfl,(by show (0 : Int) < 2; decide),l8,_,_,_,rfl,rfl,SqL.of zb,ez2,_,_,rfl,rfl,z20,rfl,_,rfl,?_⟩; refine zaQ (fun _ => ?_) (fun _ => ?_)
     ·refine ⟨_,rfl,sl,_,_,_,rfl,rfl,SqL.of hXs,e18,_,_,rfl,rfl,(by show (0 : Int) < 3; decide),_,_,rfl,rfl,_,rfl,?_⟩; refine zaQ (fun _ => ?_) (fun _ => ?_)
      ·exact ⟨_,rfl,.inl ⟨rfl,_,SqL.of hXr⟩,_,rfl,ro,_,_,rfl,rfl,hXr,zP (by rw [List.length_map]; omega),rw ++ [none],_,_,_,rfl,by rw [List.length_append,hrl]; rfl,zY sX hro5,by rw [zb,List.map_append]; rfl,by rw [zp hslro]; exact hXs,zjj hrg⟩
      ·exact ⟨_,rfl,.inl ⟨rfl,_,SqL.of hXr⟩,_,rfl,ro,_,_,rfl,rfl,hXr,zP (by rw [List.length_map]; omega),rw ++ [some _],_,_,_,rfl,by rw [List.length_append,hrl]; rfl,zY sX hro5,by rw [zb,List.map_append]; rfl,by rw [zp hslro]; exact hXs,zfY hrg (by first | exact ⟨Int.emod_nonneg _ (by omega),Int.emod_lt_of_pos _ p0⟩ | exact zfZ p0)⟩
     ·refine zeH ?_
      exact ⟨_,rfl,.inl ⟨rfl,_,SqL.of hXr⟩,_,rfl,ro,_,_,rfl,rfl,hXr,zP (by rw [List.length_map]; omega),rw ++ [some _],_,_,_,rfl,by rw [List.length_append,hrl]; rfl,zY sX hro5,by rw [zb,List.map_append]; rfl,by rw [zp hslro]; exact hXs,zfY hrg (by first | exact ⟨Int.emod_nonneg _ (by omega),Int.emod_lt_of_pos _ p0⟩ | exact zfZ p0)⟩
   ·rintro σ H7 ⟨rw,v11,v12,v13,rfl,hrl,s7,h7r,h7s,hrg⟩
    refine ⟨_,rfl,sl,_,_,_,rfl,rfl,SqL.of h7s,e19,_,_,rfl,rfl,(by show (0 : Int) < 30; decide),rfl,_,rfl,?_⟩
    refine zaQ (fun _ => ?_) (fun _ => ⟨_,rfl,q ro rw H7 hroH (s5.trans s7) hrl hrg h7r⟩)
    refine ⟨by show 1 ≤ sizeLine; omega,fun z hz => ⟨_,rfl,ro,_,rfl,.inl (SqL.of ((ze hz) _ _ h7r)),z,_,[.non],rfl,rfl,zb,by rw [List.length_map]; omega,by rw [List.length_map]; omega,by rw [List.length_map]; show 1 * _ ≤ sizeLine; omega,fun y hy => ?_⟩⟩
    have s8:=(s5.trans s7).trans (ze (o:=.lst [.non]) hz)
    refine q y (List.replicate pl.length none) _ (s8.free hy) (s8.trans (ze hy)) (by rw [List.length_replicate]) (fun z hz => by cases List.eq_of_mem_replicate hz) ?_
    rw [zb,List.length_map,zkB,hrl,Int.toNat_natCast]
theorem zaH : FnScope ["p","number","product","square","left"] ["p","number"] (zi zb4):=⟨rfl,rfl,rfl,by decide +kernel,rfl,by decide +kernel,by decide +kernel⟩
theorem zgz {fd : FuncData} (T : Txt K mg t) (F : Fun K "inverse" "inverse" zb4 t.inverse fd) : FnOk P w K mg base CX0 1 t.inverse fd ["p","number"] (zgl K):=by
 refine F.ok zaH (fun vs H Q E h => ?_) (fun cdv A outer s H vs Q E hr h => ?_)
 ·obtain ⟨p,h,rfl,_⟩:=h
  rfl
 ·obtain ⟨p,hh,rfl,mp,h0,h1,q⟩:=h
  refine ⟨_,(@zf _ _ _ _ _ (@zn _ _ (2) _ _ _ _ zaH.nd rfl (Or.inl rfl) (@zh _ _ _ _) (by rfl) (by trivial)) (by exact (@zf _ _ _ _ _ (@zn _ _ (3) _ _ _ _ zaH.nd rfl (Or.inl rfl) (@zl _ _ _ _ _ _ _ _ (@zC _) (@pvx _ 1 _ _ rfl) (@pvx _ 0 _ _ rfl)) (by rfl) (by trivial)) (by exact (@zf _ _ _ _ _ (@zn _ _ (4) _ _ _ _ zaH.nd rfl (Or.inl rfl) (@zl _ _ _ _ _ _ _ _ (@zbP _) (@pvx _ 0 _ _ rfl) (@zh _ _ _ _)) (by rfl) (by trivial)) (by exact (@zf _ _ _ _ _ (@zio _ _ _ _ _ _ PassesOwn.never (@zD _ _ _ _ _ _ _ _ (@ziu _) (@pvx _ 4 _ _ rfl) (@zh _ _ _ _) (zN _)) (@zf _ _ _ _ _ (@za7 _ _ _ _ _ _ _ _ (@zD _ _ _ _ _ _ _ _ (@zbQ _) (@zl _ _ _ _ _ _ _ _ (@zC _) (@pvx _ 4 _ _ rfl) (@zh _ _ _ _)) (@zh _ _ _ _) (zN _)) (@zm _ _ _ (@zn _ _ (2) _ _ _ _ zaH.nd rfl (Or.inl rfl) (@zl _ _ _ _ _ _ _ _ (@zC _) (@zl _ _ _ _ _ _ _ _ (@zZ _) (@pvx _ 2 _ _ rfl) (@pvx _ 3 _ _ rfl)) (@pvx _ 0 _ _ rfl)) (by rfl) (by trivial))) (@zaq _)) (by exact (@zf _ _ _ _ _ (@zn _ _ (3) _ _ _ _ zaH.nd rfl (Or.inl rfl) (@zl _ _ _ _ _ _ _ _ (@zC _) (@zl _ _ _ _ _ _ _ _ (@zZ _) (@pvx _ 3 _ _ rfl) (@pvx _ 3 _ _ rfl)) (@pvx _ 0 _ _ rfl)) (by rfl) (by trivial)) (by exact (@zm _ _ _ (@zkN _ _ (4) _ _ _ _ _ _ zaH.nd rfl (Or.inl rfl) (@zh _ _ _ _) zir (by trivial)))))))) (by exact (@zm _ _ _ (@zG _ _ _ _ (@pvx _ 2 _ _ rfl))))))))))),?_⟩
  have rp:=zM mp
  have e0:=Int.emod_nonneg hh (show p ≠ 0 by omega)
  have e1:=Int.emod_lt_of_pos hh (show 0 < p by omega)
  refine ⟨_,rfl,_,rfl,_,_,rfl,rfl,(by show 0 < p; omega),_,rfl,_,_,rfl,rfl,?_⟩
  refine ziq (fun σ H' => H' = H ∧ ∃ (prod sq left : Int) (n : Nat),σ = [some (.int p),some (.int hh),some (.int prod),some (.int sq),some (.int left)] ∧ 0 ≤ prod ∧ prod < p ∧ 0 ≤ sq ∧ sq < p ∧ 0 ≤ left ∧ left < 2 ^ n ∧ zb1 p n prod sq left = inv p hh) (fun σ _ => zk3 σ)
   ⟨rfl,1,hh % p,p - 2,7,rfl,by omega,by omega,e0,e1,by omega,by omega,rfl⟩ ?_ ?_
  ·rintro σ H1 ⟨rfl,prod,sq,left,n,rfl,b0,b1,s0,s1,l0,l1,hi⟩
   refine ⟨_,rfl,_,_,rfl,rfl,_,rfl,?_⟩
   refine zaQ (fun hl => ?_) (fun hl => ?_)
   ·have hl : 0 < left:=by simpa using hl
    obtain ⟨m,rfl⟩ : ∃ m,n = m + 1:=by
     cases n with
     | zero => omega
     | succ m => exact ⟨m,rfl⟩
    rw [zeR hl l1] at hi
    have l2 : left / 2 < 2 ^ m:=by
     have : (2 : Int) ^ (m + 1) = 2 ^ m * 2:=Int.pow_succ ..
     omega
    have m0:=Int.emod_nonneg (prod * sq) (show p ≠ 0 by omega)
    have m1:=Int.emod_lt_of_pos (prod * sq) (show 0 < p by omega)
    have n0:=Int.emod_nonneg (sq * sq) (show p ≠ 0 by omega)
    have n1:=Int.emod_lt_of_pos (sq * sq) (show 0 < p by omega)
    refine ⟨_,rfl,_,_,rfl,rfl,(by show (0 : Int) < 2; decide),rfl,_,rfl,?_⟩; refine zaQ (fun ho => ?_) (fun ho => ?_)
    ·have ho : left % 2 = 1:=by simpa using ho
     rw [if_pos ho] at hi
     refine ⟨_,rfl,_,rfl,_,_,rfl,rfl,.inl ⟨by omega,by omega⟩,_,rfl,_,_,rfl,rfl,(by show 0 < p; omega),?_⟩
     refine ⟨_,rfl,_,rfl,_,_,rfl,rfl,.inl ⟨by omega,by omega⟩,_,rfl,_,_,rfl,rfl,(by show 0 < p; omega),?_⟩
     refine ⟨_,rfl,_,_,rfl,rfl,⟨by decide,by decide⟩,⟨rfl,_,_,_,m,rfl,m0,m1,n0,n1,by omega,l2,hi⟩,?_⟩
     show (left / 2).toNat < left.toNat
     omega
    ·have ho : ¬ left % 2 = 1:=by simpa using ho
     rw [if_neg ho] at hi
     refine ⟨_,rfl,_,rfl,_,_,rfl,rfl,.inl ⟨by omega,by omega⟩,_,rfl,_,_,rfl,rfl,(by show 0 < p; omega),?_⟩
     refine ⟨_,rfl,_,_,rfl,rfl,⟨by decide,by decide⟩,⟨rfl,_,_,_,m,rfl,b0,b1,n0,n1,by omega,l2,hi⟩,?_⟩
     show (left / 2).toNat < left.toNat
     omega
   ·have hl : ¬ 0 < left:=by simpa using hl
    have el : left = 0:=by omega
    subst el
    rw [zfs] at hi
    rw [← hi] at q
    exact ⟨_,rfl,q⟩
  ·rintro σ H1 Q1 Q2 hq ⟨v,e,i,j,e1,e2,k,e3,q⟩
   exact ⟨v,e,i,j,e1,e2,k,e3,hq _ _ q⟩
theorem zbq : FnScope ["p","polynomial","root","raised","kept"] ["p","polynomial","root"] (zi zaP):=⟨rfl,rfl,rfl,by decide +kernel,rfl,by decide +kernel,by decide +kernel⟩
theorem zd2 {fd : FuncData} (T : Txt K mg t) (F : Fun K "times_root" "times_root" zaP t.times_root fd) : FnOk P w K mg base CX0 1 t.times_root fd ["p","polynomial","root"] (zd0 K):=by
 refine F.ok zbq (fun vs H Q E h => ?_) (fun cdv A outer s H vs Q E hr h => ?_)
 ·obtain ⟨p,r,a,cs,rfl,_⟩:=h
  rfl
 ·obtain ⟨p,r,a,cs,rfl,ha,hlen,p0,r0,r1,q⟩:=h
  refine ⟨_,(@zf _ _ _ _ _ (@zn _ _ (3) _ _ _ _ zbq.nd rfl (Or.inl rfl) (@zl _ _ _ _ _ _ _ _ (@zbC _) (@zL _ _ _ _ (@za _ _ _ _ _ (@zh _ _ _ _) (@zg _) (by rfl))) (@pvx _ 1 _ _ rfl)) (by rfl) (by trivial)) (by exact (@zf _ _ _ _ _ (@zn _ _ (4) _ _ _ _ zbq.nd rfl (Or.inl rfl) (@zl _ _ _ _ _ _ _ _ (@zbC _) (@pvx _ 1 _ _ rfl) (@zL _ _ _ _ (@za _ _ _ _ _ (@zh _ _ _ _) (@zg _) (by rfl)))) (by rfl) (by trivial)) (by exact (@zm _ _ _ (@zG _ _ _ _ (@zai _ _ _ _ _ _ _ _ _ _ _ _ _ (CompSc.of (N':=["high","low","root","p"]) (ix:=[none,none,some 2,some 0]) (zi zaP) ["p","polynomial","root","raised","kept"] rfl rfl (by decide +kernel)) rfl (@zbo _ _ _ _ (@zO _ _ _ rfl (@zO _ _ _ rfl (@za1 _)))) (@zdc _ _ _ _ _ _ _ _ _ rfl T.zip_ (@za _ _ _ _ _ (@pvx _ 3 _ _ rfl) (@za _ _ _ _ _ (@pvx _ 4 _ _ rfl) (@zg _) (by rfl)) (by rfl)) (by rfl) (by rfl)) (fun _ _ _ _ => (@zaO _ (K) _ _ _ (2) _ rfl rfl (@zq _ _ _ _ _ (@zj _ _ (0) _ (show (["high","low","root","p"] : List Str).Nodup by decide +kernel) rfl (Or.inl rfl) (by trivial)) (@zq _ _ _ _ _ (@zj _ _ (1) _ (show (["high","low","root","p"] : List Str).Nodup by decide +kernel) rfl (Or.inl rfl) (by trivial)) (@z9 _) (by rfl)) (by rfl)) (by rfl) (by rfl))) (fun _ _ _ _ => (@z8 _)) (fun _ _ _ _ => (@zl _ _ _ _ _ _ _ _ (@zC _) (@zl _ _ _ _ _ _ _ _ (@zbP _) (@pvx _ 0 _ _ rfl) (@zl _ _ _ _ _ _ _ _ (@zZ _) (@pvx _ 2 _ _ rfl) (@pvx _ 1 _ _ rfl))) (@pvx _ 3 _ _ rfl))) (by intro _; rfl)))))))),?_⟩
  have hsl:=sizeLine_eq
  refine ⟨by show 1 ≤ sizeLine; omega,fun z hz => ⟨_,rfl,z,a,[.int 0],cs.map V.int,rfl,rfl,zb,by rw [zp (zu ha hz)]; exact ha,by rw [List.length_map]; show 1 + cs.length ≤ sizeLine; omega,fun ra hra => ?_⟩⟩
  have s1 : zy H (upd (upd H z (.lst [.int 0])) ra (.lst ([.int 0] ++ cs.map V.int))):=(ze hz).trans (ze hra)
  refine ⟨_,rfl,by show 1 ≤ sizeLine; omega,fun z2 hz2 => ⟨a,z2,cs.map V.int,[.int 0],rfl,rfl,by rw [zp (zu (s1 _ _ ha) hz2)]; exact s1 _ _ ha,zb,by rw [List.length_map]; show cs.length + 1 ≤ sizeLine; omega,fun ke hke => ?_⟩⟩
  have s2:=s1.trans ((ze (o:=.lst [.int 0]) hz2).trans (ze (o:=.lst (cs.map V.int ++ [.int 0])) hke))
  have hra2 : upd (upd (upd (upd H z (.lst [.int 0])) ra (.lst ([.int 0] ++ cs.map V.int))) z2 (.lst [.int 0])) ke (.lst (cs.map V.int ++ [.int 0])) ra = some (.lst ((0 :: cs).map V.int)) :=
   ((ze (o:=.lst [.int 0]) hz2).trans (ze (o:=.lst (cs.map V.int ++ [.int 0])) hke)) _ _ zb
  have hke2 : upd (upd (upd (upd H z (.lst [.int 0])) ra (.lst ([.int 0] ++ cs.map V.int))) z2 (.lst [.int 0])) ke (.lst (cs.map V.int ++ [.int 0])) ke = some (.lst ((cs ++ [0]).map V.int)):=by rw [zb,List.map_append]; rfl
  generalize upd (upd (upd (upd H z (.lst [.int 0])) ra (.lst ([.int 0] ++ cs.map V.int))) z2 (.lst [.int 0])) ke (.lst (cs.map V.int ++ [.int 0])) = H2 at s2 hra2 hke2 ⊢
  refine ⟨_,rfl,_,rfl,ra,ke,_,_,rfl,SqL.of hra2,SqL.of hke2,zU (n:=cs.length + 1) (fun i ys H' => ys = ((zcf p r cs).take i).map V.int ∧ zy H2 H') ⟨by simp,fun _ _ e => e⟩ ?_ ?_ ?_ ?_⟩
  ·rintro i ys H3 hi ⟨_,s3⟩
   obtain ⟨x,hx⟩ : ∃ x,(0 :: cs)[i]? = some x:=⟨(0 :: cs)[i]'(by simpa using hi),by simp⟩
   obtain ⟨y,hy⟩ : ∃ y,(cs ++ [0])[i]? = some y:=⟨(cs ++ [0])[i]'(by simpa using hi),by simp⟩
   exact ⟨_,_,.int x,.int y,SqL.of (s3 _ _ hra2),SqL.of (s3 _ _ hke2),by rw [List.getElem?_map,hx]; rfl,by rw [List.getElem?_map,hy]; rfl⟩
  ·rintro ys H3 ⟨_,s3⟩
   exact ⟨_,_,SqL.of (s3 _ _ hra2),SqL.of (s3 _ _ hke2),.inl (by simp)⟩
  ·rintro i x ys H3 H4 hi ⟨rfl,s3⟩ ⟨T,u,v,hT,rfl,rfl,hu,hv⟩
   obtain ⟨x,rfl,hx⟩:=zas (hu _ (SqL.of (s3 _ _ hra2)))
   obtain ⟨y,rfl,hy⟩:=zas (hv _ (SqL.of (s3 _ _ hke2)))
   refine gY2 (SqT.of zb) ?_
   refine ⟨_,rfl,_,rfl,_,rfl,_,_,rfl,rfl,.inl ⟨by omega,by omega⟩,_,_,rfl,rfl,_,rfl,_,_,rfl,rfl,p0,zP ?_,?_,s3.trans (ze hT)⟩
   ·rw [List.length_map]
    exact Nat.le_trans (List.length_take_le _ _) (by omega)
   ·show _ = (List.take (i + 1) (List.zipWith (trF p r) (0 :: cs) (cs ++ [0]))).map V.int
    rw [zft hx hy,List.map_append]
    rfl
  ·rintro ys H3 D ⟨rfl,s3⟩ hD
   refine q D _ ((s2.trans s3).free hD) ((s2.trans s3).trans (ze hD)) ?_
   rw [zb,List.take_of_length_le (by rw [zek]; exact Nat.le_refl _)]
theorem zjl {p f : Int} : ∀ (cs vs : List Int),vs.length ≤ cs.length → ad p f cs vs = List.zipWith (fun number other => (number + f * other) % p) cs vs ++ cs.drop vs.length
 | [],[],_ => rfl
 | _ :: _,[],_ => rfl
 | [],_ :: _,h => by simp at h
 | c :: cs,v :: vs,h => by
  show (c + f * v) % p :: ad p f cs vs = (c + f * v) % p :: (List.zipWith _ cs vs ++ cs.drop vs.length)
  rw [zjl cs vs (by simpa using h)]
theorem zjm {xs : List V} {k : Nat} (h : k ≤ xs.length) : zdr xs (some (k : Int)) none = xs.drop k:=by
 have e1 : HT.sIx xs.length 0 (some (k : Int)) = k:=by
  unfold HT.sIx
  simp
  split <;> omega
 have e2 : HT.sIx xs.length xs.length none = xs.length:=rfl
 unfold zdr
 rw [e1,e2]
 exact List.take_of_length_le (by rw [List.length_drop]; exact Nat.le_refl _)
def zkg (K : PySem.W.Frag) : Sp:=fun vs H Q _ => ∃ (p x y : Int) (c v b : Addr) (cs ws : List Int),vs = [.int p,.ref c,.ref v,.ref b] ∧ H c = some (.lst (cs.map V.int)) ∧ H v = some (.lst (ws.map V.int)) ∧ H b = some (.tup [.int x,.int y]) ∧ p ∈ zw ∧ 0 ≤ x ∧ x < p ∧ 0 ≤ y ∧ y < p ∧ 0 < zt p x ws ∧ zt p x ws < p ∧ ws.length ≤ cs.length ∧ cs.length ≤ 1000 ∧
 ∀ (l : Addr) (H' : Hp),H l = none → zy H H' → H' l = some (.lst ((ad p ((y - zt p x cs) * inv p (zt p x ws) % p) cs ws).map V.int)) → Q (.ref l) H'
theorem zb9 : FnScope ["p","polynomial","vanishing","point","x","y","missing","factor","added"] ["p","polynomial","vanishing","point"] (zi zdM):=⟨rfl,rfl,rfl,by decide +kernel,rfl,by decide +kernel,by decide +kernel⟩
theorem zkh {fd : FuncData} (T : Txt K mg t) (F : Fun K "bent" "bent" zdM t.bent fd) : FnOk P w K mg base CX0 2 t.bent fd ["p","polynomial","vanishing","point"] (zkg K):=by
 obtain ⟨fd_value_at,F_value_at,b_value_at⟩:=T.f_value_at
 have G_value_at:=zcW (P:=P) (w:=w) (base:=base) T F_value_at
 obtain ⟨fd_inverse,F_inverse,b_inverse⟩:=T.f_inverse
 have G_inverse:=zgz (P:=P) (w:=w) (base:=base) T F_inverse
 refine F.ok zb9 (fun vs H Q E h => ?_) (fun cdv A outer s H vs Q E hr h => ?_)
 ·obtain ⟨p,x,y,c,v,b,cs,ws,rfl,_⟩:=h
  rfl
 ·obtain ⟨p,x,y,c,v,b,cs,ws,rfl,hc,hv,hb,mp,x0,x1,y0,y1,g0,g1,hle,hlen,q⟩:=h
  refine ⟨_,(@zf _ _ _ _ _ (@zcj _ _ _ _ _ _ (@pvx _ 3 _ _ rfl) (@zbA _ _ _ _ _ _ rfl (@zq _ _ _ _ _ (@zj _ _ (4) _ zb9.nd rfl (Or.inl rfl) (by trivial)) (@zq _ _ _ _ _ (@zj _ _ (5) _ zb9.nd rfl (Or.inl rfl) (by trivial)) (@z9 _) (by rfl)) (by rfl)) (by rfl) (by rfl)) (by rfl) (by rfl) (by rfl)) (by exact (@zf _ _ _ _ _ (@zn _ _ (6) _ _ _ _ zb9.nd rfl (Or.inl rfl) (@zl _ _ _ _ _ _ _ _ (@zbP _) (@pvx _ 5 _ _ rfl) (@zz _ _ _ _ _ _ _ _ _ _ _ _ _ _ _ _ G_value_at (hr.mono (by decide)) rfl T.m_value_at F_value_at.kp b_value_at .nil (@zW _) (@za _ _ _ _ _ (@pvx _ 0 _ _ rfl) (@za _ _ _ _ _ (@pvx _ 1 _ _ rfl) (@za _ _ _ _ _ (@pvx _ 4 _ _ rfl) (@zg _) (by rfl)) (by rfl)) (by rfl)) (by decide) (by rfl) (by rfl))) (by rfl) (by trivial)) (by exact (@zf _ _ _ _ _ (@zn _ _ (7) _ _ _ _ zb9.nd rfl (Or.inr rfl) (@zl _ _ _ _ _ _ _ _ (@zC _) (@zl _ _ _ _ _ _ _ _ (@zZ _) (@pvx _ 6 _ _ rfl) (@zz _ _ _ _ _ _ _ _ _ _ _ _ _ _ _ _ G_inverse (hr.mono (by decide)) rfl T.m_inverse F_inverse.kp b_inverse .nil (@zW _) (@za _ _ _ _ _ (@pvx _ 0 _ _ rfl) (@za _ _ _ _ _ (@zz _ _ _ _ _ _ _ _ _ _ _ _ _ _ _ _ G_value_at (hr.mono (by decide)) rfl T.m_value_at F_value_at.kp b_value_at .nil (@zW _) (@za _ _ _ _ _ (@pvx _ 0 _ _ rfl) (@za _ _ _ _ _ (@pvx _ 2 _ _ rfl) (@za _ _ _ _ _ (@pvx _ 4 _ _ rfl) (@zg _) (by rfl)) (by rfl)) (by rfl)) (by decide) (by rfl) (by rfl)) (@zg _) (by rfl)) (by rfl)) (by decide) (by rfl) (by rfl))) (@pvx _ 0 _ _ rfl)) (by rfl) (by trivial)) (by exact (@zf _ _ _ _ _ (@zav _ _ _ _ _ _ _ _ _ _ _ _ _ (8) _ _ _ zb9.nd rfl (Or.inl rfl) (CompSc.of (N':=["number","other","factor","p"]) (ix:=[none,none,some 7,some 0]) (zi zdM) ["p","polynomial","vanishing","point","x","y","missing","factor","added"] rfl rfl (by decide +kernel)) rfl (@zbo _ _ _ _ (@zO _ _ _ rfl (@zO _ _ _ rfl (@za1 _)))) (@zdc _ _ _ _ _ _ _ _ _ rfl T.zip_ (@za _ _ _ _ _ (@pvx _ 1 _ _ rfl) (@za _ _ _ _ _ (@pvx _ 2 _ _ rfl) (@zg _) (by rfl)) (by rfl)) (by rfl) (by rfl)) (fun _ _ _ _ => (@zaO _ (K) _ _ _ (2) _ rfl rfl (@zq _ _ _ _ _ (@zj _ _ (0) _ (show (["number","other","factor","p"] : List Str).Nodup by decide +kernel) rfl (Or.inl rfl) (by trivial)) (@zq _ _ _ _ _ (@zj _ _ (1) _ (show (["number","other","factor","p"] : List Str).Nodup by decide +kernel) rfl (Or.inl rfl) (by trivial)) (@z9 _) (by rfl)) (by rfl)) (by rfl) (by rfl))) (fun _ _ _ _ => (@z8 _)) (fun _ _ _ _ => (@zl _ _ _ _ _ _ _ _ (@zC _) (@zl _ _ _ _ _ _ _ _ (@zag _) (@pvx _ 0 _ _ rfl) (@zl _ _ _ _ _ _ _ _ (@zZ _) (@pvx _ 2 _ _ rfl) (@pvx _ 1 _ _ rfl))) (@pvx _ 3 _ _ rfl))) (by rfl) (by intro _; rfl) (by trivial)) (by exact (@zm _ _ _ (@zG _ _ _ _ (@zl _ _ _ _ _ _ _ _ (@zbC _) (@pvx _ 8 _ _ rfl) (@zct _ _ _ _ _ _ _ _ _ _ zdb (@pvx _ 1 _ _ rfl) (@zda _ _ _ (@zr _ _ _ _ _ _ _ _ _ (@zB _) (by rfl) T.len_ boot_len (@za _ _ _ _ _ (@pvx _ 8 _ _ rfl) (@zg _) (by rfl)) (by decide) (by decide) (by rfl) (by rfl))) (@zc9 _))))))))))))),?_⟩
  have hsl:=sizeLine_eq
  have rp:=zM mp
  have p0 : 0 < p:=by omega
  have v0:=zbj (x:=x) p0 cs
  have v1:=zbk (x:=x) p0 cs
  refine ⟨_,rfl,b,_,rfl,SqT.of hb,rfl,_,_,rfl,_,_,rfl,rfl,?_⟩
  refine ⟨_,rfl,_,rfl,_,rfl,_,rfl,p,x,c,cs,rfl,.inl (SqL.of hc),p0,by omega,x0,x1,_,_,rfl,rfl,?_⟩
  refine ⟨_,rfl,_,rfl,_,rfl,_,rfl,_,rfl,p,x,v,ws,rfl,.inl (SqL.of hv),p0,by omega,x0,x1,p,_,rfl,mp,by omega,by omega,_,_,rfl,rfl,.inl ⟨by omega,by omega⟩,_,rfl,_,_,rfl,rfl,p0,?_⟩
  have f0:=Int.emod_nonneg ((y - zt p x cs) * inv p (zt p x ws)) (show p ≠ 0 by omega)
  have f1:=Int.emod_lt_of_pos ((y - zt p x cs) * inv p (zt p x ws)) p0
  refine ⟨_,rfl,_,rfl,c,v,_,_,rfl,SqL.of hc,SqL.of hv,zcL (n:=ws.length) (f:=fun number other => (number + ((y - zt p x cs) * inv p (zt p x ws) % p) * other) % p) hc hv hle (Nat.le_refl _) (.inr (Nat.le_refl _)) (by omega) ?_ ?_⟩
  ·intro j u w H6 T R B hu hv s6 hT hR
   refine gY2 (SqT.of zb) ?_
   exact ⟨_,rfl,_,rfl,_,rfl,_,_,rfl,rfl,.inl ⟨by omega,by omega⟩,_,_,rfl,rfl,_,rfl,_,_,rfl,rfl,p0,hR⟩
  ·intro D H6 s6 hD
   obtain ⟨f,hf⟩ : ∃ f,(y - zt p x cs) * inv p (zt p x ws) % p = f:=⟨_,rfl⟩
   rw [hf] at q ⊢
   have lz : (List.zipWith (fun number other => (number + f * other) % p) cs ws).length = ws.length:=by rw [List.length_zipWith]; omega
   have s7:=s6.trans (ze (o:=.lst ((List.zipWith (fun number other => (number + f * other) % p) cs ws).map V.int)) hD)
   have h7D : upd H6 D (.lst ((List.zipWith (fun number other => (number + f * other) % p) cs ws).map V.int)) D = some (.lst ((List.zipWith (fun number other => (number + f * other) % p) cs ws).map V.int)):=zb
   generalize upd H6 D (.lst ((List.zipWith (fun number other => (number + f * other) % p) cs ws).map V.int)) = H7 at s7 h7D ⊢
   have h7c:=s7 _ _ hc
   refine ⟨_,rfl,_,rfl,_,rfl,D,_,rfl,.inl (SqL.of h7D),?_⟩
   refine ⟨_,rfl,c,_,rfl,SqL.of h7c,fun z hz => ?_⟩
   have ec : zdr (cs.map V.int) (some ((((List.zipWith (fun number other => (number + f * other) % p) cs ws).map V.int).length : Nat) : Int)) none = (cs.drop ws.length).map V.int:=by
    rw [List.length_map,lz,zjm (by rw [List.length_map]; exact hle),List.map_drop]
   rw [ec]
   have s8:=ze (o:=.lst ((cs.drop ws.length).map V.int)) hz
   refine ⟨D,z,_,_,rfl,rfl,s8 _ _ h7D,zb,by rw [List.length_map,List.length_map,lz,List.length_drop]; omega,fun l hl => q l _ (((s7.trans s8).free hl)) ((s7.trans s8).trans (ze hl)) ?_⟩
   rw [zb,zjl cs ws hle,List.map_append]
theorem zaI : FnScope ["p","points","polynomial","vanishing","x","y"] ["p","points"] (zi zb5):=⟨rfl,rfl,rfl,by decide +kernel,rfl,by decide +kernel,by decide +kernel⟩
theorem zgA {fd : FuncData} (T : Txt K mg t) (F : Fun K "through" "through" zb5 t.through fd) : FnOk P w K mg base CX0 3 t.through fd ["p","points"] (zdA K):=by
 obtain ⟨fd_bent,F_bent,b_bent⟩:=T.f_bent
 have G_bent:=zkh (P:=P) (w:=w) (base:=base) T F_bent
 obtain ⟨fd_times_root,F_times_root,b_times_root⟩:=T.f_times_root
 have G_times_root:=zd2 (P:=P) (w:=w) (base:=base) T F_times_root
 refine F.ok zaI (fun vs H Q E h => ?_) (fun cdv A outer s H vs Q E hr h => ?_)
 ·obtain ⟨p,a,pts,rfl,_⟩:=h
  rfl
 ·obtain ⟨p,a,pts,rfl,hP,hlen,mp,hp,q⟩:=h
  refine ⟨_,(@zf _ _ _ _ _ (@zn _ _ (2) _ _ _ _ zaI.nd rfl (Or.inl rfl) (@zl _ _ _ _ _ _ _ _ (@zds _) (@zL _ _ _ _ (@za _ _ _ _ _ (@zh _ _ _ _) (@zg _) (by rfl))) (@zr _ _ _ _ _ _ _ _ _ (@zB _) (by rfl) T.len_ boot_len (@za _ _ _ _ _ (@pvx _ 1 _ _ rfl) (@zg _) (by rfl)) (by decide) (by decide) (by rfl) (by rfl))) (by rfl) (by trivial)) (by exact (@zf _ _ _ _ _ (@zn _ _ (3) _ _ _ _ zaI.nd rfl (Or.inl rfl) (@zL _ _ _ _ (@za _ _ _ _ _ (@zh _ _ _ _) (@zg _) (by rfl))) (by rfl) (by trivial)) (by exact (@zf _ _ _ _ _ (@zaG _ _ _ _ _ _ _ _ PassesOwn.never rfl (@zac _ _ _ _ (@pvx _ 1 _ _ rfl)) (@zbA _ _ _ _ _ _ rfl (@zq _ _ _ _ _ (@zj _ _ (4) _ zaI.nd rfl (Or.inl rfl) (by trivial)) (@zq _ _ _ _ _ (@zj _ _ (5) _ zaI.nd rfl (Or.inl rfl) (by trivial)) (@z9 _) (by rfl)) (by rfl)) (by rfl) (by rfl)) (@zf _ _ _ _ _ (@zn _ _ (2) _ _ _ _ zaI.nd rfl (Or.inl rfl) (@zz _ _ _ _ _ _ _ _ _ _ _ _ _ _ _ _ G_bent (hr.mono (by decide)) rfl T.m_bent F_bent.kp b_bent .nil (@zW _) (@za _ _ _ _ _ (@pvx _ 0 _ _ rfl) (by exact (@za _ _ _ _ _ (@pvx _ 2 _ _ rfl) (@za _ _ _ _ _ (@pvx _ 3 _ _ rfl) (@za _ _ _ _ _ (@za5 _ _ _ _ _ (@za _ _ _ _ _ (@pvx _ 4 _ _ rfl) (@za _ _ _ _ _ (@pvx _ 5 _ _ rfl) (@zg _) (by rfl)) (by rfl))) (@zg _) (by rfl)) (by rfl)) (by rfl))) (by rfl)) (by decide) (by rfl) (by rfl)) (by rfl) (by trivial)) (by exact (@zm _ _ _ (@zn _ _ (3) _ _ _ _ zaI.nd rfl (Or.inl rfl) (@zz _ _ _ _ _ _ _ _ _ _ _ _ _ _ _ _ G_times_root (hr.mono (by decide)) rfl T.m_times_root F_times_root.kp b_times_root .nil (@zW _) (@za _ _ _ _ _ (@pvx _ 0 _ _ rfl) (@za _ _ _ _ _ (@pvx _ 3 _ _ rfl) (@za _ _ _ _ _ (@pvx _ 4 _ _ rfl) (@zg _) (by rfl)) (by rfl)) (by rfl)) (by decide) (by rfl) (by rfl)) (by rfl) (by trivial))))) (by intro _; rfl)) (by exact (@zm _ _ _ (@zG _ _ _ _ (@zaT _ _ _ _ _ _ _ _ _ (@zaZ _) (by rfl) T.tuple_ boot_tuple (@za _ _ _ _ _ (@pvx _ 2 _ _ rfl) (@zg _) (by rfl)) (by decide) (by decide) (by rfl) (by rfl)))))))))),?_⟩
  have hsl:=sizeLine_eq
  have rp:=zM mp
  have p0 : 0 < p:=by omega
  obtain ⟨bs,hS,hbl,hb⟩:=id hP
  refine ⟨by show 1 ≤ sizeLine; omega,fun z hz => ⟨_,rfl,a,_,rfl,.inl ((ze hz).seq hS),z,_,[.int 0],rfl,rfl,zb,by rw [List.length_map]; omega,by rw [List.length_map]; omega,by rw [List.length_map]; show 1 * _ ≤ sizeLine; omega,fun c hc => ?_⟩⟩
  have s0:=ze (o:=.lst [.int 0]) hz
  have hcH : H c = none:=s0.free hc
  refine ⟨by show 1 ≤ sizeLine; omega,fun v hv => ?_⟩
  have hcv : c ≠ v:=zu zb hv
  rw [List.length_map,zdz,hbl,Int.toNat_natCast] at hv ⊢
  have s2 : zy H (upd (upd (upd H z (.lst [.int 0])) c (.lst ((List.replicate pts.length 0).map V.int))) v (.lst [.int 1])):=(s0.trans (ze hc)).trans (ze hv)
  refine ⟨_,rfl,a,rfl,⟨_,s2.seq hS⟩,zbb (K:=K) (a:=a) (xs:=bs.map V.ref) (fun i σ H' => ∃ (c v : Addr) (s : List Int × List Int) (e4 e5 : Option V),σ = [some (.int p),some (.ref a),some (.ref c),some (.ref v),e4,e5] ∧
   s = (pts.take i).foldl (zcv p) (List.replicate pts.length 0,[1]) ∧ Nw p pts.length (pts.take i) s ∧ zy H H' ∧ H' c = some (.lst (s.1.map V.int)) ∧ H' v = some (.lst (s.2.map V.int)))
   ⟨c,v,_,none,none,rfl,rfl,by rw [List.take_zero]; exact zdw mp _,s2,by rw [zp hcv]; exact zb,zb⟩ (fun i σ H' _ ⟨_,_,_,_,_,_,_,_,s3,_⟩ => s3.seq hS) ?_ ?_⟩
  ·rintro i y σ H1 hy ⟨c,v,s,e4,e5,rfl,hs,nw,s1,h1c,h1v⟩
   obtain ⟨b,rfl,hbi⟩:=zaj hy
   obtain ⟨hi,_⟩:=List.getElem?_eq_some_iff.mp hbi
   obtain ⟨⟨x,y⟩,hq⟩ : ∃ q,pts[i]? = some q:=⟨pts[i]'(by omega),by simp⟩
   have hbq:=s1 _ _ (hb i b _ hbi hq)
   have hsp:=zbF hq
   have hp':=hp
   rw [hsp] at hp'
   have hap:=hp'.apart
   obtain ⟨x0,x1,y0,y1⟩:=hp.rg _ (List.mem_of_getElem? hq)
   dsimp only at x0 x1 y0 y1
   have hil : i < pts.length:=by omega
   have htl : (pts.take i).length = i:=by rw [List.length_take]; omega
   have nw2:=zeO mp nw (q:=(x,y)) (by rw [htl]; exact hil) x0 x1 y0 y1 hap
   obtain ⟨hg0,hg1⟩:=zeN mp nw (q:=(x,y)) x0 x1 (fun a ha => ⟨(hap a ha).1,(hap a ha).2.1,(hap a ha).2.2.1⟩)
   dsimp only at hg0 hg1
   have hst : zcv p s (x,y) = (ad p ((y - zt p x s.1) * inv p (zt p x s.2) % p) s.1 s.2,zcf p x s.2):=rfl
   rw [hst] at nw2
   have l1:=nw.lc
   have l2:=nw.lv
   rw [htl] at l2
   refine ⟨b,_,rfl,SqT.of hbq,rfl,_,_,rfl,_,_,rfl,rfl,?_⟩
   refine ⟨_,rfl,_,rfl,_,rfl,_,rfl,_,rfl,by show 2 ≤ sizeLine; omega,fun tt ht => ?_⟩
   have t1:=ze (o:=.tup [.int x,.int y]) ht
   refine ⟨p,x,y,c,v,tt,s.1,s.2,rfl,t1 _ _ h1c,t1 _ _ h1v,zb,mp,x0,x1,y0,y1,hg0,hg1,by omega,by omega,fun l H3 hl s3 h3l => ?_⟩
   have s4:=t1.trans s3
   refine ⟨_,rfl,_,rfl,_,rfl,p,x,v,s.2,rfl,s4 _ _ h1v,by omega,p0,x0,by omega,fun l2 H4 hl2 s5 h4l => ?_⟩
   refine ⟨l,l2,zcv p s (x,y),_,_,rfl,?_,?_,(s1.trans s4).trans s5,?_,?_⟩
   ·rw [take_snoc hq,List.foldl_append,← hs]
    rfl
   ·rw [take_snoc hq,hst]
    exact nw2
   ·rw [hst]
    exact s5 _ _ h3l
   ·rw [hst]
    exact h4l
  ·rintro σ H1 ⟨c,v,s,e4,e5,rfl,hs,nw,s1,h1c,h1v⟩
   rw [List.length_map,hbl,List.take_length] at hs
   refine ⟨_,rfl,c,_,rfl,.inl ⟨SqL.of h1c,fun l hl => q l _ (s1.free hl) (s1.trans (ze hl)) ?_⟩⟩
   rw [zb,hs]
   rfl
theorem zV : FnScope ["p","points","found","wall","x","y","step","high","by"] ["p","points"] (zi zax):=⟨rfl,rfl,rfl,by decide +kernel,rfl,by decide +kernel,by decide +kernel⟩
theorem ze5 {fd : FuncData} (T : Txt K mg t) (F : Fun K "_law_through" "_law_through" zax t.l_through fd) : FnOk P w K mg base CX0 2 t.l_through fd ["p","points"] (zeS K):=by
 obtain ⟨fd_l_value,F_l_value,b_l_value⟩:=T.f_l_value
 have G_l_value:=zcq (P:=P) (w:=w) (base:=base) T F_l_value
 refine F.ok zV (fun vs H Q E h => ?_) (fun cdv A outer s H vs Q E hr h => ?_)
 ·obtain ⟨p,a,pts,rfl,_⟩:=h
  rfl
 ·obtain ⟨p,a,pts,rfl,hP,hlen,mp,hp,q⟩:=h
  refine ⟨_,(@zf _ _ _ _ _ (@zn _ _ (2) _ _ _ _ zV.nd rfl (Or.inl rfl) (@zl _ _ _ _ _ _ _ _ (@zds _) (@zL _ _ _ _ (@za _ _ _ _ _ (@zh _ _ _ _) (@zg _) (by rfl))) (@zr _ _ _ _ _ _ _ _ _ (@zB _) (by rfl) T.len_ boot_len (@za _ _ _ _ _ (@pvx _ 1 _ _ rfl) (@zg _) (by rfl)) (by decide) (by decide) (by rfl) (by rfl))) (by rfl) (by trivial)) (by exact (@zf _ _ _ _ _ (@zn _ _ (3) _ _ _ _ zV.nd rfl (Or.inl rfl) (@zl _ _ _ _ _ _ _ _ (@zbC _) (@zL _ _ _ _ (@za _ _ _ _ _ (@zh _ _ _ _) (@zg _) (by rfl))) (@zl _ _ _ _ _ _ _ _ (@zds _) (@zL _ _ _ _ (@za _ _ _ _ _ (@zh _ _ _ _) (@zg _) (by rfl))) (@zr _ _ _ _ _ _ _ _ _ (@zB _) (by rfl) T.len_ boot_len (@za _ _ _ _ _ (@pvx _ 1 _ _ rfl) (@zg _) (by rfl)) (by decide) (by decide) (by rfl) (by rfl)))) (by rfl) (by trivial)) (by exact (@zf _ _ _ _ _ (@zaG _ _ _ _ _ _ _ _ PassesOwn.never rfl (@zac _ _ _ _ (@pvx _ 1 _ _ rfl)) (@zbA _ _ _ _ _ _ rfl (@zq _ _ _ _ _ (@zj _ _ (4) _ zV.nd rfl (Or.inr rfl) (by trivial)) (@zq _ _ _ _ _ (@zj _ _ (5) _ zV.nd rfl (Or.inl rfl) (by trivial)) (@z9 _) (by rfl)) (by rfl)) (by rfl) (by rfl)) (@zf _ _ _ _ _ (@zn _ _ (6) _ _ _ _ zV.nd rfl (Or.inr rfl) (@zl _ _ _ _ _ _ _ _ (@zC _) (@zl _ _ _ _ _ _ _ _ (@zbP _) (@pvx _ 5 _ _ rfl) (@zz _ _ _ _ _ _ _ _ _ _ _ _ _ _ _ _ G_l_value (hr.mono (by decide)) rfl T.m_l_value F_l_value.kp b_l_value .nil (@zW _) (@za _ _ _ _ _ (@pvx _ 0 _ _ rfl) (@za _ _ _ _ _ (@pvx _ 2 _ _ rfl) (@za _ _ _ _ _ (@pvx _ 4 _ _ rfl) (@zg _) (by rfl)) (by rfl)) (by rfl)) (by decide) (by rfl) (by rfl))) (@pvx _ 0 _ _ rfl)) (by rfl) (by trivial)) (by exact (@zf _ _ _ _ _ (@zn _ _ (7) _ _ _ _ zV.nd rfl (Or.inr rfl) (@zz _ _ _ _ _ _ _ _ _ _ _ _ _ _ _ _ G_l_value (hr.mono (by decide)) rfl T.m_l_value F_l_value.kp b_l_value .nil (@zW _) (@za _ _ _ _ _ (@pvx _ 0 _ _ rfl) (@za _ _ _ _ _ (@pvx _ 3 _ _ rfl) (@za _ _ _ _ _ (@pvx _ 4 _ _ rfl) (@zg _) (by rfl)) (by rfl)) (by rfl)) (by decide) (by rfl) (by rfl)) (by rfl) (by trivial)) (by exact (@zf _ _ _ _ _ (@zn _ _ (8) _ _ _ _ zV.nd rfl (Or.inr rfl) (@zE _ _ _ _ _ _ _ (@zI _) (@zai _ _ _ _ _ _ _ _ _ _ _ _ _ (CompSc.of (N':=["number","high","p","step"]) (ix:=[none,some 7,some 0,some 6]) (zi zax) ["p","points","found","wall","x","y","step","high","by"] rfl rfl (by decide +kernel)) rfl (@zam _ _ rfl) (@zaa _ _ _ _ _ _ rfl T.range_ (@za _ _ _ _ _ (@pvx _ 0 _ _ rfl) (@zg _) (by rfl)) (by rfl)) (fun _ _ _ _ => (@zj _ _ (0) _ (show (["number","high","p","step"] : List Str).Nodup by decide +kernel) rfl (Or.inl rfl) (by trivial))) (fun _ _ _ _ => (@zaB _ _ _ (@zD _ _ _ _ _ _ _ _ (@zbQ _) (@zl _ _ _ _ _ _ _ _ (@zC _) (@zl _ _ _ _ _ _ _ _ (@zZ _) (@pvx _ 0 _ _ rfl) (@pvx _ 1 _ _ rfl)) (@pvx _ 2 _ _ rfl)) (@pvx _ 3 _ _ rfl) (zN _)))) (fun _ _ _ _ => (@pvx _ 0 _ _ rfl)) (by intro _; rfl)) (@zh _ _ _ _) (fun _ _ => rfl)) (by rfl) (by trivial)) (by exact (@zf _ _ _ _ _ (@zav _ _ _ _ _ _ _ _ _ _ _ _ _ (2) _ _ _ zV.nd rfl (Or.inl rfl) (CompSc.of (N':=["one","other","by","p"]) (ix:=[none,none,some 8,some 0]) (zi zax) ["p","points","found","wall","x","y","step","high","by"] rfl rfl (by decide +kernel)) rfl (@zbo _ _ _ _ (@zO _ _ _ rfl (@zO _ _ _ rfl (@za1 _)))) (@zdc _ _ _ _ _ _ _ _ _ rfl T.zip_ (@za _ _ _ _ _ (@pvx _ 2 _ _ rfl) (@za _ _ _ _ _ (@pvx _ 3 _ _ rfl) (@zg _) (by rfl)) (by rfl)) (by rfl) (by rfl)) (fun _ _ _ _ => (@zaO _ (K) _ _ _ (2) _ rfl rfl (@zq _ _ _ _ _ (@zj _ _ (0) _ (show (["one","other","by","p"] : List Str).Nodup by decide +kernel) rfl (Or.inl rfl) (by trivial)) (@zq _ _ _ _ _ (@zj _ _ (1) _ (show (["one","other","by","p"] : List Str).Nodup by decide +kernel) rfl (Or.inl rfl) (by trivial)) (@z9 _) (by rfl)) (by rfl)) (by rfl) (by rfl))) (fun _ _ _ _ => (@z8 _)) (fun _ _ _ _ => (@zl _ _ _ _ _ _ _ _ (@zC _) (@zl _ _ _ _ _ _ _ _ (@zag _) (@pvx _ 0 _ _ rfl) (@zl _ _ _ _ _ _ _ _ (@zZ _) (@pvx _ 2 _ _ rfl) (@pvx _ 1 _ _ rfl))) (@pvx _ 3 _ _ rfl))) (by rfl) (by intro _; rfl) (by trivial)) (by exact (@zm _ _ _ (@zav _ _ _ _ _ _ _ _ _ _ _ _ _ (3) _ _ _ zV.nd rfl (Or.inl rfl) (CompSc.of (N':=["below","one","x","p"]) (ix:=[none,none,some 4,some 0]) (zi zax) ["p","points","found","wall","x","y","step","high","by"] rfl rfl (by decide +kernel)) rfl (@zbo _ _ _ _ (@zO _ _ _ rfl (@zO _ _ _ rfl (@za1 _)))) (@zdc _ _ _ _ _ _ _ _ _ rfl T.zip_ (@za _ _ _ _ _ (@zl _ _ _ _ _ _ _ _ (@zbC _) (@zL _ _ _ _ (@za _ _ _ _ _ (@zh _ _ _ _) (@zg _) (by rfl))) (@pvx _ 3 _ _ rfl)) (@za _ _ _ _ _ (@pvx _ 3 _ _ rfl) (@zg _) (by rfl)) (by rfl)) (by rfl) (by rfl)) (fun _ _ _ _ => (@zaO _ (K) _ _ _ (2) _ rfl rfl (@zq _ _ _ _ _ (@zj _ _ (0) _ (show (["below","one","x","p"] : List Str).Nodup by decide +kernel) rfl (Or.inl rfl) (by trivial)) (@zq _ _ _ _ _ (@zj _ _ (1) _ (show (["below","one","x","p"] : List Str).Nodup by decide +kernel) rfl (Or.inl rfl) (by trivial)) (@z9 _) (by rfl)) (by rfl)) (by rfl) (by rfl))) (fun _ _ _ _ => (@z8 _)) (fun _ _ _ _ => (@zl _ _ _ _ _ _ _ _ (@zC _) (@zl _ _ _ _ _ _ _ _ (@zbP _) (@pvx _ 0 _ _ rfl) (@zl _ _ _ _ _ _ _ _ (@zZ _) (@pvx _ 2 _ _ rfl) (@pvx _ 1 _ _ rfl))) (@pvx _ 3 _ _ rfl))) (by rfl) (by intro _; rfl) (by trivial))))))))))) (by intro _; rfl)) (by exact (@zm _ _ _ (@zG _ _ _ _ (@zaT _ _ _ _ _ _ _ _ _ (@zaZ _) (by rfl) T.tuple_ boot_tuple (@za _ _ _ _ _ (@pvx _ 2 _ _ rfl) (@zg _) (by rfl)) (by decide) (by decide) (by rfl) (by rfl)))))))))),?_⟩
  have hsl:=sizeLine_eq
  have rp:=zM mp
  have p0 : 0 < p:=by omega
  obtain ⟨bs,hS,hbl,hb⟩:=id hP
  refine ⟨by show 1 ≤ sizeLine; omega,fun z hz => ⟨_,rfl,a,_,rfl,.inl ((ze hz).seq hS),z,_,[.int 0],rfl,rfl,zb,by rw [List.length_map]; omega,by rw [List.length_map]; omega,by rw [List.length_map]; show 1 * _ ≤ sizeLine; omega,fun c hc => ?_⟩⟩
  have s0:=ze (o:=.lst [.int 0]) hz
  rw [List.length_map,zdz,hbl,Int.toNat_natCast]
  have s1 : zy H (upd (upd H z (.lst [.int 0])) c (.lst ((List.replicate pts.length 0).map V.int))):=s0.trans (ze hc)
  refine ⟨by show 1 ≤ sizeLine; omega,fun z1 hz1 => ⟨by show 1 ≤ sizeLine; omega,fun z2 hz2 => ?_⟩⟩
  have t1:=ze (o:=.lst [.int 1]) hz1
  have t2:=ze (o:=.lst [.int 0]) hz2
  refine ⟨_,rfl,a,_,rfl,.inl (((s1.trans t1).trans t2).seq hS),z2,_,[.int 0],rfl,rfl,zb,by rw [List.length_map]; omega,by rw [List.length_map]; omega,by rw [List.length_map]; show 1 * _ ≤ sizeLine; omega,fun z3 hz3 => ?_⟩
  rw [List.length_map,zdz,hbl,Int.toNat_natCast]
  have t3:=ze (o:=.lst ((List.replicate pts.length 0).map V.int)) hz3
  refine ⟨z1,z3,[.int 1],(List.replicate pts.length 0).map V.int,rfl,rfl,(t2.trans t3) _ _ zb,zb,by rw [List.length_map,List.length_replicate]; show 1 + _ ≤ sizeLine; omega,fun wl hwl => ?_⟩
  have t4:=ze (o:=.lst ([.int 1] ++ (List.replicate pts.length 0).map V.int)) hwl
  have sA:=s1.trans (t1.trans (t2.trans (t3.trans t4)))
  have hcA:=(t1.trans (t2.trans (t3.trans t4))) _ _ (zb (H:=upd H z (.lst [.int 0])) (a:=c) (o:=.lst ((List.replicate pts.length 0).map V.int)))
  refine ⟨_,rfl,a,rfl,⟨_,sA.seq hS⟩,zbb (K:=K) (a:=a) (xs:=bs.map V.ref) (fun i σ H' => ∃ (c wl : Addr) (s : List Int × List Int) (e4 e5 e6 e7 e8 : Option V),σ = [some (.int p),some (.ref a),some (.ref c),some (.ref wl),e4,e5,e6,e7,e8] ∧
   s = (pts.take i).foldl (zcv p) (List.replicate pts.length 0,[1]) ∧ Nw p pts.length (pts.take i) s ∧ zy H H' ∧ H' c = some (.lst (s.1.map V.int)) ∧ H' wl = some (.lst ((s.2 ++ List.replicate (pts.length - i) 0).map V.int)))
   ⟨c,wl,_,none,none,none,none,none,rfl,rfl,by rw [List.take_zero]; exact zdw mp _,sA,hcA,by rw [zb]; rfl⟩ (fun i σ H' _ ⟨_,_,_,_,_,_,_,_,_,_,_,s3,_⟩ => s3.seq hS) ?_ ?_⟩
  ·rintro i y σ H1 hy ⟨c,wl,s,e4,e5,e6,e7,e8,rfl,hs,nw,s1,h1c,h1w⟩
   obtain ⟨b,rfl,hbi⟩:=zaj hy
   obtain ⟨hi,_⟩:=List.getElem?_eq_some_iff.mp hbi
   obtain ⟨⟨x,y⟩,hq⟩ : ∃ q,pts[i]? = some q:=⟨pts[i]'(by omega),by simp⟩
   have hbq:=s1 _ _ (hb i b _ hbi hq)
   have hsp:=zbF hq
   have hp':=hp
   rw [hsp] at hp'
   have hap:=hp'.apart
   have hap' : ∀ a ∈ pts.take i,0 ≤ a.1 ∧ a.1 < p ∧ a.1 ≠ x:=fun a ha => ⟨(hap a ha).1,(hap a ha).2.1,(hap a ha).2.2.1⟩
   obtain ⟨x0,x1,y0,y1⟩:=hp.rg _ (List.mem_of_getElem? hq)
   dsimp only at x0 x1 y0 y1
   have hil : i < pts.length:=by omega
   have htl : (pts.take i).length = i:=by rw [List.length_take]; omega
   have nw2:=zeO mp nw (q:=(x,y)) (by rw [htl]; exact hil) x0 x1 y0 y1 hap
   obtain ⟨hg0,hg1⟩:=zeN mp nw (q:=(x,y)) x0 x1 hap'
   have hfac:=zem mp nw (q:=(x,y)) x0 x1 hap'
   dsimp only at hg0 hg1 hfac
   have l1:=nw.lc
   have l2:=nw.lv
   rw [htl] at l2
   have f0:=Int.emod_nonneg ((y - zt p x s.1) * inv p (zt p x s.2)) (show p ≠ 0 by omega)
   have f1:=Int.emod_lt_of_pos ((y - zt p x s.1) * inv p (zt p x s.2)) p0
   have hst : zcv p s (x,y) = (ad p ((y - zt p x s.1) * inv p (zt p x s.2) % p) s.1 s.2,zcf p x s.2):=rfl
   obtain ⟨f,hf⟩ : ∃ f,(y - zt p x s.1) * inv p (zt p x s.2) % p = f:=⟨_,rfl⟩
   rw [hf] at f0 f1 hst hfac
   rw [hst] at nw2
   refine ⟨b,_,rfl,SqT.of hbq,rfl,_,_,rfl,_,_,rfl,rfl,?_⟩
   refine ⟨_,rfl,_,rfl,_,rfl,_,rfl,p,x,c,s.1,rfl,.inl (SqL.of h1c),p0,by omega,x0,x1,_,_,rfl,rfl,_,rfl,_,_,rfl,rfl,p0,?_⟩
   refine ⟨_,rfl,_,rfl,_,rfl,p,x,wl,_,rfl,.inl (SqL.of h1w),p0,by omega,x0,x1,?_⟩
   rw [zfo]
   refine ⟨_,rfl,p,rfl,by omega,by omega,zU (n:=p.toNat) (fun i ys H' => zy H1 H' ∧ ys = if f < (i : Int) then [V.int f] else []) ⟨fun _ _ e => e,by rw [if_neg (by omega)]⟩ (fun i ys H' hi _ => hi) (fun ys H' _ => Nat.le_refl _) ?_ ?_⟩
   ·rintro m xx ys H4 H5 hm ⟨s4,hys⟩ ⟨rfl,rfl⟩
    refine ⟨_,rfl,_,rfl,_,_,rfl,rfl,.inl ⟨by omega,by omega⟩,_,rfl,_,_,rfl,rfl,p0,_,rfl,rfl,_,rfl,?_⟩
    refine zaQ (fun ho => ?_) (fun ho => ?_)
    ·have ho : (0 + (m : Int)) * zt p x s.2 % p = (y - zt p x s.1) % p:=by simpa using ho
     have e : f = 0 + (m : Int):=zhA mp hg0 hg1 hfac (Cg.of_mod ho) f0 f1 (by omega) (by omega)
     rw [if_neg (by omega)] at hys
     subst hys
     refine ⟨_,rfl,zP (by show 0 ≤ 10000; decide),s4,?_⟩
     rw [if_pos (by omega),e]
     rfl
    ·have ho : ¬ (0 + (m : Int)) * zt p x s.2 % p = (y - zt p x s.1) % p:=by simpa using ho
     have e : f ≠ (m : Int):=fun e => ho (by rw [Int.zero_add,← e]; exact hfac.mod_eq)
     refine ⟨s4,?_⟩
     rw [hys]
     by_cases hfm : f < (m : Int)
     ·rw [if_pos hfm,if_pos (by omega)]
     ·rw [if_neg hfm,if_neg (by omega)]
   ·rintro ys H4 D ⟨s4,hys⟩ hD
    rw [if_pos (by omega)] at hys
    subst hys
    refine ⟨D,_,_,_,rfl,rfl,SqL.of zb,rfl,?_⟩
    have s5:=s4.trans (ze (o:=.lst [.int f]) hD)
    generalize upd H4 D (.lst [.int f]) = H5 at s5 ⊢
    have h5c:=s5 _ _ h1c
    have h5w:=s5 _ _ h1w
    refine ⟨_,rfl,_,rfl,c,wl,_,_,rfl,SqL.of h5c,SqL.of h5w,zcL (n:=pts.length) (f:=fun one other => (one + f * other) % p) h5c h5w (by omega) (by rw [List.length_append,List.length_replicate]; omega) (.inl (by omega)) (by omega) ?_ ?_⟩
    ·intro j u v H6 T R B hu hv s6 hT hR
     refine gY2 (SqT.of zb) ?_
     exact ⟨_,rfl,_,rfl,_,rfl,_,_,rfl,rfl,.inl ⟨by omega,by omega⟩,_,_,rfl,rfl,_,rfl,_,_,rfl,rfl,p0,hR⟩
    ·intro D2 H6 s6 hD2
     rw [zeQ p0 s.1 s.2 _ nw.rc (by omega) (by omega)]
     have s7:=(s5.trans s6).trans (ze (o:=.lst ((ad p f s.1 s.2).map V.int)) hD2)
     have h7c : upd H6 D2 (.lst ((ad p f s.1 s.2).map V.int)) D2 = some (.lst ((ad p f s.1 s.2).map V.int)):=zb
     generalize upd H6 D2 (.lst ((ad p f s.1 s.2).map V.int)) = H7 at s7 h7c ⊢
     have h7w:=s7 _ _ h1w
     have lw : (s.2 ++ List.replicate (pts.length - i) 0).length = pts.length + 1:=by rw [List.length_append,List.length_replicate]; omega
     refine ⟨by show 1 ≤ sizeLine; omega,fun z hz => ⟨_,rfl,z,wl,[.int 0],_,rfl,rfl,zb,(ze hz) _ _ h7w,by rw [List.length_map,lw]; show 1 + _ ≤ sizeLine; omega,fun zc hzc => ?_⟩⟩
     have u1:=ze (o:=.lst [.int 0]) hz
     have u2:=ze (o:=.lst ([.int 0] ++ (s.2 ++ List.replicate (pts.length - i) 0).map V.int)) hzc
     have h8z : upd (upd H7 z (.lst [.int 0])) zc (.lst ([.int 0] ++ (s.2 ++ List.replicate (pts.length - i) 0).map V.int)) zc = some (.lst ((0 :: (s.2 ++ List.replicate (pts.length - i) 0)).map V.int)):=by rw [zb]; rfl
     have s8:=s7.trans (u1.trans u2)
     have h8w:=(u1.trans u2) _ _ h7w
     have h8c:=(u1.trans u2) _ _ h7c
     generalize upd (upd H7 z (.lst [.int 0])) zc (.lst ([.int 0] ++ (s.2 ++ List.replicate (pts.length - i) 0).map V.int)) = H8 at h8z s8 h8w h8c ⊢
     refine ⟨_,rfl,zc,wl,_,_,rfl,SqL.of h8z,SqL.of h8w,zcL (n:=pts.length + 1) (f:=trF p x) h8z h8w (by rw [List.length_cons,lw]; omega) (by rw [lw]; exact Nat.le_refl _) (.inr (by rw [lw]; exact Nat.le_refl _)) (by omega) ?_ ?_⟩
     ·intro j u v H9 T R B hu hv s9 hT hR
      refine gY2 (SqT.of zb) ?_
      exact ⟨_,rfl,_,rfl,_,rfl,_,_,rfl,rfl,.inl ⟨by omega,by omega⟩,_,_,rfl,rfl,_,rfl,_,_,rfl,rfl,p0,hR⟩
     ·intro D3 H9 s9 hD3
      have em : pts.length - i = pts.length - (i + 1) + 1:=by omega
      rw [em,zgQ (pts.length - (i + 1)) s.2 0]
      refine ⟨D2,D3,zcv p s (x,y),_,_,_,_,_,rfl,?_,?_,((s1.trans s8).trans s9).trans (ze hD3),?_,?_⟩
      ·rw [take_snoc hq,List.foldl_append,← hs]
       rfl
      ·rw [take_snoc hq,hst]
       exact nw2
      ·rw [hst]
       exact (s9.trans (ze hD3)) _ _ h8c
      ·rw [hst]
       exact zb
  ·rintro σ H1 ⟨c,wl,s,e4,e5,e6,e7,e8,rfl,hs,nw,s1,h1c,h1w⟩
   rw [List.length_map,hbl,List.take_length] at hs
   refine ⟨_,rfl,c,_,rfl,.inl ⟨SqL.of h1c,fun l hl => q l _ (s1.free hl) (s1.trans (ze hl)) ?_⟩⟩
   rw [zb,hs]
   rfl
end
end My
end
section
set_option maxHeartbeats 3999000
namespace My
open PySem L2 PyProof.Rows
section
variable {P : Program} {w : World} {K : PySem.W.Frag} {mg : Str → Option Value} {base : Heap} {t : Adr}
theorem zbK : FnScope ["things","many","chosen","step"] ["things","many"] (zi zba):=⟨rfl,rfl,rfl,by decide +kernel,rfl,by decide +kernel,by decide +kernel⟩
theorem zgB {fd : FuncData} (T : Txt K mg t) (F : Fun K "choices" "choices" zba t.choices fd) : FnOk P w K mg base CX0 1 t.choices fd ["things","many"] (zgw K):=by
 refine F.ok zbK (fun vs H Q E h => ?_) (fun cdv A outer s H vs Q E hr h => ?_)
 ·obtain ⟨a,m,xs,rfl,_⟩:=h
  rfl
 ·obtain ⟨a,m,xs,rfl,hS,hx,hm,q⟩:=h
  refine ⟨_,(@zf _ _ _ _ _ (@zn _ _ (2) _ _ _ _ zbK.nd rfl (Or.inl rfl) (@zL _ _ _ _ (@za _ _ _ _ _ (@za5 _ _ _ _ _ (@za _ _ _ _ _ (@zh _ _ _ _) (@za _ _ _ _ _ (@zL _ _ _ _ (@zg _)) (@zg _) (by rfl)) (by rfl))) (@zg _) (by rfl))) (by rfl) (by trivial)) (by exact (@zf _ _ _ _ _ (@zaG _ _ _ _ _ _ _ _ PassesOwn.never rfl (@zaa _ _ _ _ _ _ rfl T.range_ (@za _ _ _ _ _ (@pvx _ 1 _ _ rfl) (@zg _) (by rfl)) (by rfl)) (@zj _ _ (3) _ zbK.nd rfl (Or.inl rfl) (by trivial)) (@zm _ _ _ (@zgv _ _ _ _ _ _ _ _ _ _ _ _ _ _ _ _ _ _ _ _ _ (2) _ _ _ zbK.nd rfl (Or.inl rfl) (CompSc.of (N':=["start","picked","at","things"]) (ix:=[none,none,none,some 0]) (zi zba) ["things","many","chosen","step"] rfl rfl (by decide +kernel)) rfl (zlf (js:=[0,1]) (zfI (js:=[0,1]) (i:=0) (by decide) (zfI (js:=[0,1]) (i:=1) (by decide) (zj0 (js:=[0,1]))))) (zjZ (js:=[2]) (i:=2) (by decide)) (by decide) (by decide) (@zac _ _ _ _ (@pvx _ 2 _ _ rfl)) (fun _ _ _ _ => (@zaO _ (K) _ _ _ (2) _ rfl rfl (@zq _ _ _ _ _ (@zj _ _ (0) _ (show (["start","picked","at","things"] : List Str).Nodup by decide +kernel) rfl (Or.inl rfl) (by trivial)) (@zq _ _ _ _ _ (@zj _ _ (1) _ (show (["start","picked","at","things"] : List Str).Nodup by decide +kernel) rfl (Or.inl rfl) (by trivial)) (@z9 _) (by rfl)) (by rfl)) (by rfl) (by rfl))) (fun _ _ _ _ => (@z8 _)) (fun _ _ _ _ => (@zhp _ _ _ _ _ _ _ rfl T.range_ (@za _ _ _ _ _ (@pvx _ 0 _ _ rfl) (@za _ _ _ _ _ (@zr _ _ _ _ _ _ _ _ _ (@zan _ (K) rfl) (by rfl) T.len_ boot_len (@za _ _ _ _ _ (@pvx _ 3 _ _ rfl) (@zg _) (by rfl)) (by decide) (by decide) (by rfl) (by rfl)) (@zg _) (by rfl)) (by rfl)) (by rfl) (by rfl))) (fun _ _ _ _ => (@zj _ _ (2) _ (show (["start","picked","at","things"] : List Str).Nodup by decide +kernel) rfl (Or.inl rfl) (by trivial))) (fun _ _ _ _ => (@z8 _)) (fun _ _ _ _ => (@za5 _ _ _ _ _ (@za _ _ _ _ _ (@zl _ _ _ _ _ _ _ _ (@zag _) (@pvx _ 2 _ _ rfl) (@zh _ _ _ _)) (@za _ _ _ _ _ (@zl _ _ _ _ _ _ _ _ (@zbC _) (@pvx _ 1 _ _ rfl) (@zL _ _ _ _ (@za _ _ _ _ _ (@zE _ _ _ _ _ _ _ (@zbc _ (K) rfl) (@pvx _ 3 _ _ rfl) (@pvx _ 2 _ _ rfl) (fun _ _ => rfl)) (@zg _) (by rfl)))) (@zg _) (by rfl)) (by rfl)))) (by rfl) (by intro _; rfl) (by intros; rfl) (by trivial))) (by intro _; rfl)) (by exact (@zm _ _ _ (@zG _ _ _ _ (@zai _ _ _ _ _ _ _ _ _ _ _ _ _ (CompSc.of (N':=["start","picked"]) (ix:=[none,none]) (zi zba) ["things","many","chosen","step"] rfl rfl (by decide +kernel)) rfl (@zbo _ _ _ _ (@zO _ _ _ rfl (@zO _ _ _ rfl (@za1 _)))) (@zac _ _ _ _ (@pvx _ 2 _ _ rfl)) (fun _ _ _ _ => (@zaO _ (K) _ _ _ (2) _ rfl rfl (@zq _ _ _ _ _ (@zj _ _ (0) _ (show (["start","picked"] : List Str).Nodup by decide +kernel) rfl (Or.inl rfl) (by trivial)) (@zq _ _ _ _ _ (@zj _ _ (1) _ (show (["start","picked"] : List Str).Nodup by decide +kernel) rfl (Or.inl rfl) (by trivial)) (@z9 _) (by rfl)) (by rfl)) (by rfl) (by rfl))) (fun _ _ _ _ => (@z8 _)) (fun _ _ _ _ => (@pvx _ 1 _ _ rfl)) (by intro _; rfl)))))))),?_⟩
  have hsl:=sizeLine_eq
  refine ⟨Nat.zero_le _,fun L0 hL0 => ⟨by show 2 ≤ sizeLine; omega,fun T0 hT0 => ⟨by show 1 ≤ sizeLine; omega,fun c hc => ?_⟩⟩⟩
  have u0:=ze (o:=.lst []) hL0
  have u1:=ze (o:=.tup [.int 0,.ref L0]) hT0
  have u2:=ze (o:=.lst [.ref T0]) hc
  have hch0 : zdL (upd (upd (upd H L0 (.lst [])) T0 (.tup [.int 0,.ref L0])) c (.lst [.ref T0])) [T0] (chs xs 0):=.cons ⟨L0,u2 _ _ zb,(u1.trans u2) _ _ zb⟩ .nil
  have hc0 : upd (upd (upd H L0 (.lst [])) T0 (.tup [.int 0,.ref L0])) c (.lst [.ref T0]) c = some (.lst ([T0].map V.ref)):=zb
  have s0:=(u0.trans u1).trans u2
  generalize upd (upd (upd H L0 (.lst [])) T0 (.tup [.int 0,.ref L0])) c (.lst [.ref T0]) = H0 at hch0 hc0 s0 ⊢
  refine ⟨_,rfl,_,rfl,by omega,by omega,?_⟩
  rw [Int.toNat_natCast]
  refine zaS (lo:=0) (n:=m) (fun i σ H' => ∃ (c : Addr) (ts : List Addr) (e3 : Option V),σ = [some (.ref a),some (.int m),some (.ref c),e3] ∧ zy H H' ∧ H' c = some (.lst (ts.map V.ref)) ∧ zdL H' ts (chs xs i)) ⟨c,[T0],none,rfl,s0,hc0,hch0⟩ ?_ ?_
  ·rintro i σ H1 hi ⟨c,ts,e3,rfl,s1,h1c,hch⟩
   have hcl:=hch.length
   have hsm:=zcO (xs:=xs) (i + 1) hx
   have hfl : ((chs xs i).flatMap (nxt xs)).length ≤ 65536:=hsm
   refine ⟨_,rfl,c,rfl,⟨_,SqL.of h1c⟩,zkA (n:=ts.length) (fun i' ys H' => ∃ us : List Addr,ys = us.map V.ref ∧ zy H1 H' ∧ zdL H' us (((chs xs i).take i').flatMap (nxt xs))) ⟨[],rfl,fun _ _ e => e,.nil⟩ ?_ ?_ ?_ ?_⟩
   ·rintro i' ys H2 hi' ⟨us,_,s2,_⟩
    exact ⟨_,.ref ts[i'],SqL.of (s2 _ _ h1c),by rw [List.getElem?_map,List.getElem?_eq_getElem hi']; rfl⟩
   ·rintro ys H2 ⟨us,_,s2,_⟩
    exact ⟨_,SqL.of (s2 _ _ h1c),by rw [List.length_map]; exact Nat.le_refl _⟩
   ·rintro i' y ys H2 H3 hi' ⟨us,rfl,s2,hus⟩ ⟨rfl,hy⟩
    obtain ⟨tt,rfl,htt⟩:=zaj (hy _ (SqL.of (s2 _ _ h1c)))
    obtain ⟨cc,hcc,hat⟩:=Paired.get hch htt
    obtain ⟨L,hL1,hL2⟩:=hat.same s2
    have hle:=zlp (List.mem_of_getElem? hcc)
    have hpl:=zfW (List.mem_of_getElem? hcc)
    obtain ⟨st,pk⟩:=cc
    dsimp only at hL1 hL2 hle hpl
    refine gY2 (SqT.of hL1) ?_
    refine ⟨_,rfl,_,rfl,a,xs,rfl,.inl ((s1.trans s2).seq hS),_,_,rfl,⟨by omega,by omega,by omega,by omega⟩,?_⟩
    have en : ((xs.length : Int) - (st : Int)).toNat = xs.length - st:=by omega
    rw [en]
    refine zkA (n:=xs.length - st) (fun j ys H' => ∃ us : List Addr,ys = us.map V.ref ∧ zy H3 H' ∧ zdL H' us (((chs xs i).take i').flatMap (nxt xs) ++ (nxt xs (st,pk)).take j)) ⟨us,rfl,fun _ _ e => e,by rw [List.take_zero,List.append_nil]; exact hus⟩ (fun j ys H' hj _ => hj) (fun ys H' _ => Nat.le_refl _) ?_ ?_
    ·rintro j z ys H4 H5 hj ⟨us,rfl,s4,hus⟩ ⟨rfl,rfl⟩
     obtain ⟨x,hx'⟩ : ∃ x,xs[st + j]? = some x:=⟨xs[st + j]'(by omega),by simp⟩
     have hat : atI xs ((st : Int) + (j : Int)) = some x:=by
      have e : ((st + j : Nat) : Int) = (st : Int) + j:=by omega
      rw [← e]
      exact zaD hx'
     have hng:=zka (c:=(st,pk)) hx'
     have hul:=hus.length
     have hpart:=zh3 (f:=nxt xs) hcc (show j < (nxt xs (st,pk)).length by rw [ze3]; exact hj)
     have hnl:=ze3 xs (st,pk)
     refine gY ?_
     refine ⟨_,rfl,_,_,rfl,rfl,_,rfl,_,rfl,_,rfl,a,xs,_,x,rfl,rfl,((s1.trans s2).trans s4).seq hS,hat,by show 1 ≤ sizeLine; omega,fun b hb => ?_⟩
     have v1:=ze (o:=.lst [x]) hb
     refine ⟨L,b,pk,[x],rfl,rfl,(s4.trans v1) _ _ hL2,zb,by show pk.length + 1 ≤ sizeLine; omega,fun L2 hL2' => ⟨by show 2 ≤ sizeLine; omega,fun T2 hT2 => ⟨?_,us ++ [T2],by rw [List.map_append]; rfl,?_,?_⟩⟩⟩
     ·rw [List.length_map,hul,List.length_append,List.length_take]
      omega
     ·exact s4.trans (v1.trans ((ze hL2').trans (ze hT2)))
     ·rw [take_snoc hng,← List.append_assoc]
      refine Paired.snoc (hus.same (v1.trans ((ze hL2').trans (ze hT2)))) ⟨L2,?_,(ze hT2) _ _ zb⟩
      rw [zb]
      show some (HO.tup [.int ((st : Int) + (j : Int) + 1),.ref L2]) = some (HO.tup [.int ((st + j + 1 : Nat) : Int),.ref L2])
      have e : ((st + j + 1 : Nat) : Int) = (st : Int) + j + 1:=by omega
      rw [e]
    ·rintro ys H4 ⟨us,rfl,s4,hus⟩
     rw [List.take_of_length_le (l:=nxt xs (st,pk)) (by rw [ze3]; exact Nat.le_refl _)] at hus
     exact ⟨us,rfl,s2.trans s4,by rw [zey hcc]; exact hus⟩
   ·rintro ys H2 ⟨us,rfl,s2,hus⟩ D hD
    rw [hcl,List.take_of_length_le (Nat.le_refl _)] at hus
    exact ⟨D,us,_,rfl,s1.trans (s2.trans (ze hD)),zb,hus.same (ze hD)⟩
  ·rintro σ H1 ⟨c,ts,e3,rfl,s1,h1c,hch⟩
   have hcl:=hch.length
   have hsm:=zcO (xs:=xs) m hx
   refine ⟨_,rfl,c,rfl,⟨_,SqL.of h1c⟩,zU (n:=ts.length) (fun i ys H' => H' = H1 ∧ ∃ us : List Addr,ys = us.map V.ref ∧ zfX H1 us (((chs xs m).map (·.2)).take i)) ⟨rfl,[],rfl,.nil⟩ ?_ ?_ ?_ ?_⟩
   ·rintro i ys H2 hi ⟨rfl,_⟩
    exact ⟨_,.ref ts[i],SqL.of h1c,by rw [List.getElem?_map,List.getElem?_eq_getElem hi]; rfl⟩
   ·rintro ys H2 ⟨rfl,_⟩
    exact ⟨_,SqL.of h1c,by rw [List.length_map]; exact Nat.le_refl _⟩
   ·rintro i y ys H2 H3 hi ⟨rfl,us,rfl,hus⟩ ⟨rfl,hy⟩
    obtain ⟨tt,rfl,htt⟩:=zaj (hy _ (SqL.of h1c))
    obtain ⟨cc,hcc,L,hL1,hL2⟩:=Paired.get hch htt
    have hul:=hus.length
    refine gY2 (SqT.of hL1) ⟨_,rfl,?_,rfl,us ++ [L],by rw [List.map_append]; rfl,?_⟩
    ·rw [List.length_map,hul,List.length_take,List.length_map]
     omega
    ·have hcc' : ((chs xs m).map (·.2))[i]? = some cc.2:=by rw [List.getElem?_map,hcc]; rfl
     rw [take_snoc hcc']
     exact Paired.snoc hus hL2
   ·rintro ys H2 D ⟨rfl,us,rfl,hus⟩ hD
    rw [List.take_of_length_le (by rw [List.length_map,hcl]; exact Nat.le_refl _)] at hus
    exact q D us _ (s1.free hD) (s1.trans (ze hD)) zb (hus.same (ze hD))
end
end My
end
section
set_option maxHeartbeats 3999000
namespace My
open PySem L2 PyProof.Rows
def quo (p r : Int) : List Int → List Int
 | [] => []
 | [_] => []
 | _ :: d :: cs => zt p r (d :: cs) :: quo p r (d :: cs)
theorem zhd (p r : Int) : ∀ (c : Int) (cs : List Int),(quo p r (c :: cs)).length = cs.length
 | _,[] => rfl
 | _,d :: cs => by
  show (quo p r (d :: cs)).length + 1 = cs.length + 1
  rw [zhd p r d cs]
theorem zjn {p r x : Int} : ∀ d : List Int,Cg p (zt p x d - zt p r d) ((x - r) * zt p x (quo p r d))
 | [] => Cg.of_eq (by show (0 : Int) - 0 = (x - r) * 0; omega)
 | [c] => by
  have h1 : Cg p (zt p x [c]) (c + x * 0):=zX p x c []
  have h2 : Cg p (zt p r [c]) (c + r * 0):=zX p r c []
  refine (h1.sub h2).trans (Cg.of_eq ?_)
  show c + x * 0 - (c + r * 0) = (x - r) * 0
  omega
 | c :: d :: cs => by
  have h1:=zX p x c (d :: cs)
  have h2:=zX p r c (d :: cs)
  have ih:=zjn (p:=p) (r:=r) (x:=x) (d :: cs)
  have h3 : Cg p (zt p x (quo p r (c :: d :: cs))) (zt p r (d :: cs) + x * zt p x (quo p r (d :: cs))):=zX p x _ _
  have h4:=(Cg.refl p (x - r)).mul h3
  have h5:=(Cg.refl p x).mul ih
  refine (h1.sub h2).trans (Cg.symm (h4.trans ?_))
  refine (Cg.of_eq (show _ = (x - r) * zt p r (d :: cs) + x * ((x - r) * zt p x (quo p r (d :: cs))) by grind)).trans ?_
  refine ((Cg.refl p ((x - r) * zt p r (d :: cs))).add h5.symm).trans (Cg.of_eq (by grind))
theorem zf0 {p r : Int} : ∀ d : List Int,Cg p (zt p r d) 0 → (∀ c ∈ quo p r d,Cg p c 0) → ∀ c ∈ d,Cg p c 0
 | [],_,_,c,hc => by cases hc
 | [a],h,_,c,hc => by
  obtain rfl : c = a:=by simpa using hc
  have h1 : Cg p (zt p r [c]) (c + r * 0):=zX p r c []
  exact ((Cg.of_eq (by omega)).trans h1.symm).trans h
 | a :: d :: cs,h,hq,c,hc => by
  have h0 : Cg p (zt p r (d :: cs)) 0:=hq _ List.mem_cons_self
  rcases (List.mem_cons.mp hc) with rfl | hc
  ·have h1:=zX p r c (d :: cs)
   have h2:=(Cg.refl p r).mul h0
   have h3:=(h1.symm.trans h).sub h2
   exact (Cg.of_eq (by omega)).trans (h3.trans (Cg.of_eq (by omega)))
  ·exact zf0 (d :: cs) h0 (fun c hc => hq c (List.mem_cons_of_mem _ hc)) c hc
theorem zh8 {p a y : Int} (hp : p ∈ zw) (ha0 : a % p ≠ 0) (h : Cg p (a * y) 0) : Cg p y 0:=by
 have rp:=zM hp
 have g0:=Int.emod_nonneg a (show p ≠ 0 by omega)
 have g1:=Int.emod_lt_of_pos a (show 0 < p by omega)
 have hi:=zeM hp (h:=a % p) (by omega) g1
 have h1 : Cg p (inv p (a % p) * (a % p) * y) (1 * y):=hi.mul (Cg.refl p y)
 have h2 : Cg p (inv p (a % p) * (a % p) * y) (inv p (a % p) * (a * y)):=by
  have:=((Cg.refl p (inv p (a % p))).mul (Cg.emod p a)).mul (Cg.refl p y)
  exact this.trans (Cg.of_eq (by grind))
 have h3:=(Cg.refl p (inv p (a % p))).mul h
 exact (Cg.of_eq (by omega)).trans (h1.symm.trans (h2.trans (h3.trans (Cg.of_eq (by omega)))))
theorem zdP {p : Int} (hp : p ∈ zw) : ∀ (n : Nat) (d xs : List Int),d.length = n → n ≤ xs.length → xs.Nodup → (∀ x ∈ xs,0 ≤ x ∧ x < p) → (∀ x ∈ xs,Cg p (zt p x d) 0) → ∀ c ∈ d,Cg p c 0
 | 0,d,xs,hd,_,_,_,_,c,hc => by
  rw [List.length_eq_zero_iff] at hd
  subst hd
  cases hc
 | n + 1,d,[],hd,hx,_,_,_,c,hc => by simp at hx
 | n + 1,[],r :: xs,hd,hx,_,_,_,c,hc => by cases hc
 | n + 1,a :: cs,r :: xs,hd,hx,hnd,hrg,hz,c,hc => by
  have rp:=zM hp
  obtain ⟨r0,r1⟩:=hrg r List.mem_cons_self
  have hr:=hz r List.mem_cons_self
  refine zf0 (a :: cs) hr (zdP hp n (quo p r (a :: cs)) xs (by rw [zhd]; simpa using hd) (by simpa using hx) (List.nodup_cons.mp hnd).2 (fun x h => hrg x (List.mem_cons_of_mem _ h)) fun x h => ?_) c hc
  obtain ⟨x0,x1⟩:=hrg x (List.mem_cons_of_mem _ h)
  have hne : x ≠ r:=fun e => (List.nodup_cons.mp hnd).1 (e ▸ h)
  have he:=zjn (p:=p) (r:=r) (x:=x) (a :: cs)
  have h0:=(hz x (List.mem_cons_of_mem _ h)).sub hr
  refine zh8 hp (a:=x - r) (fun e => ?_) (he.symm.trans (h0.trans (Cg.of_eq (by omega))))
  have : Cg p x r:=by
   have h1 : Cg p (x - r) 0:=Cg.of_mod (by rw [e]; simp)
   have h2:=h1.add (Cg.refl p r)
   exact (Cg.of_eq (by omega)).trans (h2.trans (Cg.of_eq (by omega)))
  exact hne (this.eq x0 x1 r0 r1)
theorem zf1 {p x : Int} : ∀ {a b : List Int},a.length = b.length → Cg p (zt p x (List.zipWith (· - ·) a b)) (zt p x a - zt p x b)
 | [],[],_ => Cg.of_eq rfl
 | c :: a,d :: b,h => by
  have ih:=zf1 (p:=p) (x:=x) (a:=a) (b:=b) (by simpa using h)
  have h1:=zX p x c a
  have h2:=zX p x d b
  have h3 : Cg p (zt p x (List.zipWith (· - ·) (c :: a) (d :: b))) (c - d + x * zt p x (List.zipWith (· - ·) a b)):=zX p x (c - d) _
  refine h3.trans (((Cg.refl p (c - d)).add ((Cg.refl p x).mul ih)).trans (Cg.symm ((h1.sub h2).trans (Cg.of_eq (by grind)))))
 | [],_ :: _,h => by simp at h
 | _ :: _,[],h => by simp at h
theorem zf2 {p : Int} : ∀ {a b : List Int},a.length = b.length → (∀ c ∈ a,0 ≤ c ∧ c < p) → (∀ c ∈ b,0 ≤ c ∧ c < p) → (∀ c ∈ List.zipWith (· - ·) a b,Cg p c 0) → a = b
 | [],[],_,_,_,_ => rfl
 | c :: a,d :: b,h,ha,hb,hz => by
  obtain ⟨c0,c1⟩:=ha c List.mem_cons_self
  obtain ⟨d0,d1⟩:=hb d List.mem_cons_self
  have h1 : Cg p (c - d) 0:=hz _ List.mem_cons_self
  have h2 : Cg p c d:=(Cg.of_eq (by omega)).trans ((h1.add (Cg.refl p d)).trans (Cg.of_eq (by omega)))
  rw [h2.eq c0 c1 d0 d1,zf2 (by simpa using h) (fun c hc => ha c (List.mem_cons_of_mem _ hc)) (fun c hc => hb c (List.mem_cons_of_mem _ hc)) (fun c hc => hz c (List.mem_cons_of_mem _ hc))]
 | [],_ :: _,h,_,_,_ => by simp at h
 | _ :: _,[],h,_,_,_ => by simp at h
theorem zf3 {p : Int} (hp : p ∈ zw) {a b xs : List Int} (hl : a.length = b.length) (hx : a.length ≤ xs.length) (hnd : xs.Nodup) (hrg : ∀ x ∈ xs,0 ≤ x ∧ x < p) (ha : ∀ c ∈ a,0 ≤ c ∧ c < p) (hb : ∀ c ∈ b,0 ≤ c ∧ c < p)
  (he : ∀ x ∈ xs,zt p x a = zt p x b) : a = b:=by
 refine zf2 hl ha hb (zdP hp a.length _ xs (by rw [List.length_zipWith]; omega) hx hnd hrg fun x h => ?_)
 refine (zf1 hl).trans (Cg.of_eq ?_)
 rw [he x h]
 omega
theorem zlr {p : Int} (hp : p ∈ zw) {pk : List (Int × Int)} (hP : Pts p pk) {q : List Int} (hl : q.length = pk.length) (hq : ∀ c ∈ q,0 ≤ c ∧ c < p) (hh : ∀ a ∈ pk,zt p a.1 q = a.2) : q = thr p pk:=by
 obtain ⟨h1,h2,h3⟩:=zeP hp hP
 refine zf3 hp (xs:=pk.map (·.1)) (by omega) (by rw [List.length_map]; omega) hP.nd (fun x hx => ?_) hq h2 fun x hx => ?_
 ·obtain ⟨a,ha,rfl⟩:=List.mem_map.mp hx
  exact ⟨(hP.rg a ha).1,(hP.rg a ha).2.1⟩
 ·obtain ⟨a,ha,rfl⟩:=List.mem_map.mp hx
  rw [hh a ha,h3 a ha]
theorem Pts.sub {p : Int} {pk pts : List (Int × Int)} (h : Pts p pts) (hs : pk.Sublist pts) : Pts p pk:=⟨(hs.map _).nodup h.nd,fun q hq => h.rg q (hs.subset hq)⟩
theorem zhe {α : Type} {xs : List α} : ∀ {m : Nat} {c : Nat × List α},c ∈ chs xs m → c.2.Sublist (xs.take c.1) ∧ c.2.length = m ∧ c.1 ≤ xs.length
 | 0,c,h => by
  unfold chs at h
  rw [List.mem_singleton] at h
  subst h
  exact ⟨List.nil_sublist _,rfl,Nat.zero_le _⟩
 | m + 1,c,h => by
  unfold chs at h
  obtain ⟨c',hm,hc⟩:=List.mem_flatMap.mp h
  obtain ⟨h1,h2,h3⟩:=zhe hm
  unfold nxt at hc
  obtain ⟨j,hj,rfl⟩:=List.mem_map.mp hc
  (have hj':=List.mem_range.mp hj)
  have hlt : c'.1 + j < xs.length:=by omega
  have e : xs[c'.1 + j]? = some xs[c'.1 + j]:=List.getElem?_eq_getElem hlt
  dsimp only
  rw [e]
  refine ⟨?_,by rw [List.length_append,h2]; rfl,by omega⟩
  rw [take_snoc e]
  refine List.Sublist.append (h1.trans ?_) (List.Sublist.refl _)
  have : xs.take c'.1 = (xs.take (c'.1 + j)).take c'.1:=by rw [List.take_take]; congr 1; omega
  rw [this]
  exact List.take_sublist _ _
theorem sub_one {α : Type} {l : List α} {x : α} (h : l.Sublist [x]) : l = [] ∨ l = [x]:=by
 cases h with
 | cons _ h => exact .inl (List.sublist_nil.mp h)
 | cons_cons _ h => exact .inr (by rw [List.sublist_nil.mp h])
theorem zdl {α : Type} {xs : List α} : ∀ {m n : Nat} {pk : List α},pk.Sublist (xs.take n) → pk.length = m → ∃ s,s ≤ n ∧ (s,pk) ∈ chs xs m
 | 0,n,pk,h,hl => by
  rw [List.length_eq_zero_iff] at hl
  subst hl
  exact ⟨0,Nat.zero_le _,by unfold chs; exact List.mem_singleton.mpr rfl⟩
 | m + 1,0,pk,h,hl => by
  rw [List.take_zero] at h
  rw [List.sublist_nil.mp h] at hl
  simp at hl
 | m + 1,n + 1,pk,h,hl => by
  cases e : xs[n]? with
  | none =>
   have : xs.take (n + 1) = xs.take n:=by
    have:=List.getElem?_eq_none_iff.mp e
    rw [List.take_of_length_le (by omega),List.take_of_length_le this]
   rw [this] at h
   obtain ⟨s,h1,h2⟩:=zdl (m:=m + 1) (n:=n) h hl
   exact ⟨s,by omega,h2⟩
  | some x =>
   rw [take_snoc e] at h
   obtain ⟨l1,l2,rfl,h1,h2⟩:=List.sublist_append_iff.mp h
   rcases (sub_one h2) with rfl | rfl
   ·rw [List.append_nil] at hl ⊢
    obtain ⟨s,a1,a2⟩:=zdl (m:=m + 1) (n:=n) h1 hl
    exact ⟨s,by omega,a2⟩
   ·obtain ⟨s,a1,a2⟩:=zdl (m:=m) (n:=n) h1 (by simpa using hl)
    refine ⟨n + 1,Nat.le_refl _,?_⟩
    unfold chs
    refine List.mem_flatMap.mpr ⟨(s,l1),a2,?_⟩
    have hlt:=(List.getElem?_eq_some_iff.mp e).1
    unfold nxt
    refine List.mem_map.mpr ⟨n - s,List.mem_range.mpr (by show n - s < xs.length - s; omega),?_⟩
    have es : s + (n - s) = n:=by omega
    dsimp only
    rw [es,e]
    rfl
theorem zca {α : Type} {xs pk : List α} {m : Nat} : pk ∈ (chs xs m).map (·.2) ↔ pk.Sublist xs ∧ pk.length = m:=by
 constructor
 ·intro h
  obtain ⟨c,hc,rfl⟩:=List.mem_map.mp h
  obtain ⟨h1,h2,h3⟩:=zhe hc
  exact ⟨h1.trans (List.take_sublist _ _),h2⟩
 ·rintro ⟨h1,h2⟩
  obtain ⟨s,_,hs⟩:=zdl (xs:=xs) (n:=xs.length) (by rw [List.take_length]; exact h1) h2
  exact List.mem_map.mpr ⟨_,hs,rfl⟩
def hit (p : Int) (q : List Int) (a : Int × Int) : Bool:=decide (zt p a.1 q = a.2)
def hits (p : Int) (q : List Int) (pts : List (Int × Int)) : Nat:=(pts.filter (hit p q)).length
def IsP (p : Int) (k : Nat) (q : List Int) : Prop:=q.length = k ∧ ∀ c ∈ q,0 ≤ c ∧ c < p
theorem zdQ {p : Int} (hp : p ∈ zw) {pts : List (Int × Int)} (hP : Pts p pts) {q : List Int} {k t n : Nat} (hq : IsP p k q) (hk : k ≤ t) (hn : pts.length ≤ n + (t - k)) (ht : t ≤ hits p q pts) :
  ∃ pk,pk ∈ (chs (pts.take n) k).map (·.2) ∧ q = thr p pk:=by
 have hsplit : hits p q pts = ((pts.take n).filter (hit p q)).length + ((pts.drop n).filter (hit p q)).length:=by
  unfold hits
  conv => lhs; rw [← List.take_append_drop n pts]
  rw [List.filter_append,List.length_append]
 have hd:=List.length_filter_le (hit p q) (pts.drop n)
 rw [List.length_drop] at hd
 have hk' : k ≤ ((pts.take n).filter (hit p q)).length:=by omega
 have hs : (((pts.take n).filter (hit p q)).take k).Sublist (pts.take n):=(List.take_sublist _ _).trans (List.filter_sublist)
 have hl : (((pts.take n).filter (hit p q)).take k).length = k:=by rw [List.length_take]; omega
 refine ⟨_,zca.mpr ⟨hs,hl⟩,zlr hp (hP.sub (hs.trans (List.take_sublist _ _))) (by rw [hl]; exact hq.1) hq.2 fun a ha => ?_⟩
 have:=(List.mem_filter.mp ((List.take_sublist _ _).subset ha)).2
 simpa [hit] using this
theorem zki {p : Int} (hp : p ∈ zw) {pts pk : List (Int × Int)} (hP : Pts p pts) {k : Nat} (h : pk ∈ (chs pts k).map (·.2)) : IsP p k (thr p pk):=by
 obtain ⟨h1,h2⟩:=zca.mp h
 obtain ⟨a,b,_⟩:=zeP hp (hP.sub h1)
 exact ⟨a.trans h2,b⟩
def hps : List Int → List (Option Int) → List (Int × Int)
 | x :: pl,some y :: rw => (x,y) :: hps pl rw
 | _ :: pl,none :: rw => hps pl rw
 | _,_ => []
theorem zcI : ∀ {pl : List Int} {rw : List (Option Int)} {i : Nat} {x : Int} {o : Option Int},pl[i]? = some x → rw[i]? = some o → hps (pl.take (i + 1)) (rw.take (i + 1)) = hps (pl.take i) (rw.take i) ++ (match o with | some y => [(x,y)] | none => [])
 | [],_,i,x,o,h,_ => by simp at h
 | _ :: _,[],i,x,o,_,h => by simp at h
 | a :: pl,b :: rw,0,x,o,h1,h2 => by
  simp only [List.getElem?_cons_zero,Option.some.injEq] at h1 h2
  subst h1 h2
  cases b <;> rfl
 | a :: pl,b :: rw,i + 1,x,o,h1,h2 => by
  rw [List.getElem?_cons_succ] at h1 h2
  have ih:=zcI h1 h2
  cases b with
  | none => exact ih
  | some y =>
   show (a,y) :: hps (pl.take (i + 1)) (rw.take (i + 1)) = (a,y) :: hps (pl.take i) (rw.take i) ++ _
   rw [ih]
   rfl
theorem zdm : ∀ (pl : List Int) (rw : List (Option Int)),(hps pl rw).length ≤ pl.length
 | [],rw => by unfold hps; simp
 | a :: pl,[] => by unfold hps; simp
 | a :: pl,none :: rw => by
  have:=zdm pl rw
  show (hps pl rw).length ≤ pl.length + 1
  omega
 | a :: pl,some y :: rw => by
  have:=zdm pl rw
  show (hps pl rw).length + 1 ≤ pl.length + 1
  omega
theorem zcb : ∀ {pl : List Int} {rw : List (Option Int)} {a : Int × Int},a ∈ hps pl rw → a.1 ∈ pl ∧ some a.2 ∈ rw
 | [],_,a,h => by unfold hps at h; cases h
 | _ :: _,[],a,h => by unfold hps at h; cases h
 | x :: pl,none :: rw,a,h => by
  obtain ⟨h1,h2⟩:=zcb (pl:=pl) (rw:=rw) h
  exact ⟨List.mem_cons_of_mem _ h1,List.mem_cons_of_mem _ h2⟩
 | x :: pl,some y :: rw,a,h => by
  rcases (List.mem_cons.mp h) with rfl | h
  ·exact ⟨List.mem_cons_self,List.mem_cons_self⟩
  ·obtain ⟨h1,h2⟩:=zcb (pl:=pl) (rw:=rw) h
   exact ⟨List.mem_cons_of_mem _ h1,List.mem_cons_of_mem _ h2⟩
theorem ze6 : ∀ (pl : List Int) (rw : List (Option Int)),((hps pl rw).map (·.1)).Sublist pl
 | [],_ => by unfold hps; exact List.nil_sublist _
 | _ :: _,[] => by unfold hps; exact List.nil_sublist _
 | x :: pl,none :: rw => (ze6 pl rw).cons _
 | x :: pl,some y :: rw => (ze6 pl rw).cons_cons _
theorem zhf {p : Int} {pl : List Int} {rw : List (Option Int)} (h1 : pl.Nodup) (h2 : ∀ x ∈ pl,0 ≤ x ∧ x < p) (h3 : ∀ z,some z ∈ rw → 0 ≤ z ∧ z < p) : Pts p (hps pl rw) :=
 ⟨(ze6 pl rw).nodup h1,fun q hq => ⟨(h2 _ (zcb hq).1).1,(h2 _ (zcb hq).1).2,(h3 _ (zcb hq).2).1,(h3 _ (zcb hq).2).2⟩⟩
theorem zf4 {p : Int} {pl : List Int} {rw : List (Option Int)} {q : List Int} (hl : rw.length = pl.length) : ∀ n,n ≤ pl.length → (zck p pl rw q n).length = hits p q (hps (pl.take n) (rw.take n))
 | 0,_ => by simp [zck,hits,hps]
 | n + 1,hn => by
  have ih:=zf4 (p:=p) (q:=q) hl n (by omega)
  have e1 : pl[n]? = some pl[n]:=List.getElem?_eq_getElem (by omega)
  have e2 : rw[n]? = some rw[n]:=List.getElem?_eq_getElem (by omega)
  rw [zer,List.length_append,ih,zcI e1 e2]
  unfold hits
  rw [List.filter_append,List.length_append]
  congr 1
  unfold zbM
  rw [e1,e2]
  cases rw[n] with
  | none => rfl
  | some y =>
   show (if decide (y = zt p pl[n] q) = true then [(n : Int)] else []).length = ([(pl[n],y)].filter (hit p q)).length
   by_cases e : y = zt p pl[n] q
   ·rw [List.filter_cons_of_pos (by simp [hit,e])]
    simp [e]
   ·rw [List.filter_cons_of_neg (by simp [hit]; exact fun z => e z.symm)]
    simp [e]
theorem zdn {p : Int} {pl : List Int} {rw : List (Option Int)} {q : List Int} (hl : rw.length = pl.length) : (zck p pl rw q pl.length).length = hits p q (hps pl rw):=by
 have:=zf4 (p:=p) (q:=q) hl pl.length (Nat.le_refl _)
 rw [List.take_length,List.take_of_length_le (by omega)] at this
 exact this
def zcP (p : Int) (k : Nat) (qs : List (List Int)) : Prop:=(∀ q ∈ qs,IsP p k q) ∧ qs.Pairwise fun a b => Srt.num p a < Srt.num p b
theorem zhg {B : Int} (hB : 1 ≤ B) : ∀ {a b : List Int},a.length = b.length → (∀ n ∈ a,0 ≤ n ∧ n < B) → (∀ n ∈ b,0 ≤ n ∧ n < B) → Srt.num B a = Srt.num B b → a = b
 | [],[],_,_,_,_ => rfl
 | c :: a,d :: b,h,ha,hb,e => by
  have h' : a.length = b.length:=by simpa using h
  have ra:=Srt.num_rng hB (ns:=a) fun n hn => ha n (List.mem_cons_of_mem _ hn)
  have rb:=Srt.num_rng hB (ns:=b) fun n hn => hb n (List.mem_cons_of_mem _ hn)
  have e' : c * B ^ a.length + Srt.num B a = d * B ^ b.length + Srt.num B b:=e
  rw [← h'] at e' rb
  generalize B ^ a.length = M at e' ra rb
  have hM : 0 < M:=by omega
  have hcd : c = d:=by
   have e2 : (c - d) * M = Srt.num B b - Srt.num B a:=by
    rw [Int.sub_mul]
    omega
   rcases (Int.lt_trichotomy c d) with hlt | heq | hgt
   ·have : (c - d) * M ≤ (-1) * M:=Int.mul_le_mul_of_nonneg_right (by omega) (by omega)
    omega
   ·exact heq
   ·have : 1 * M ≤ (c - d) * M:=Int.mul_le_mul_of_nonneg_right (by omega) (by omega)
    omega
  subst hcd
  rw [zhg hB h' (fun n hn => ha n (List.mem_cons_of_mem _ hn)) (fun n hn => hb n (List.mem_cons_of_mem _ hn)) (by omega)]
 | [],_ :: _,h,_,_,_ => by simp at h
 | _ :: _,[],h,_,_,_ => by simp at h
theorem zhh {p : Int} (hp : 1 ≤ p) {k : Nat} {qs : List (List Int)} (h1 : ∀ q ∈ qs,IsP p k q) (h2 : qs.Nodup) (h3 : qs.Pairwise fun a b => Srt.num p a ≤ Srt.num p b) : zcP p k qs:=by
 refine ⟨h1,?_⟩
 have h4:=h3.and h2
 refine List.Pairwise.imp_of_mem (fun {a b} ha hb h => ?_) h4
 have hne : Srt.num p a ≠ Srt.num p b:=fun e => h.2 (zhg hp ((h1 a ha).1.trans (h1 b hb).1.symm) (h1 a ha).2 (h1 b hb).2 e)
 have:=h.1
 omega
theorem zcP.tail {p : Int} {k : Nat} {q : List Int} {qs : List (List Int)} (h : zcP p k (q :: qs)) : zcP p k qs:=⟨fun x hx => h.1 x (List.mem_cons_of_mem _ hx),(List.pairwise_cons.mp h.2).2⟩
theorem ze7 {p : Int} {k : Nat} : ∀ {as bs : List (List Int)},zcP p k as → zcP p k bs → (∀ q,q ∈ as ↔ q ∈ bs) → as = bs
 | [],[],_,_,_ => rfl
 | [],b :: bs,_,_,h => by
  have:=(h b).mpr List.mem_cons_self
  cases this
 | a :: as,[],_,_,h => by
  have:=(h a).mp List.mem_cons_self
  cases this
 | a :: as,b :: bs,ha,hb,h => by
  have pa:=(List.pairwise_cons.mp ha.2).1
  have pb:=(List.pairwise_cons.mp hb.2).1
  have e : a = b:=by
   rcases (List.mem_cons.mp ((h a).mp List.mem_cons_self)) with e | ma
   ·exact e
   ·rcases (List.mem_cons.mp ((h b).mpr List.mem_cons_self)) with e | mb
    ·exact e.symm
    ·have:=pb a ma
     have:=pa b mb
     omega
  subst e
  rw [ze7 ha.tail hb.tail fun q => ?_]
  have hq:=h q
  rw [List.mem_cons,List.mem_cons] at hq
  constructor
  ·intro m
   rcases (hq.mp (.inr m)) with rfl | z
   ·exact absurd (pa q m) (by omega)
   ·exact z
  ·intro m
   rcases (hq.mpr (.inr m)) with rfl | z
   ·exact absurd (pb q m) (by omega)
   ·exact z
theorem zcP.filter {p : Int} {k : Nat} {qs : List (List Int)} (f : List Int → Bool) (h : zcP p k qs) : zcP p k (qs.filter f):=⟨fun q hq => h.1 q (List.mem_filter.mp hq).1,h.2.filter f⟩
end My
end
section
set_option maxHeartbeats 3999000
namespace My
open PySem L2 PyProof.Rows
theorem zkj {α β : Type} (f : α → β) (xs : List α) (c : Nat × List α) : nxt (xs.map f) (c.1,c.2.map f) = (nxt xs c).map fun d => (d.1,d.2.map f):=by
 unfold nxt
 rw [List.map_map,List.length_map]
 refine List.map_congr_left fun j _ => ?_
 show (c.1 + j + 1,c.2.map f ++ (xs.map f)[c.1 + j]?.toList) = (c.1 + j + 1,(c.2 ++ xs[c.1 + j]?.toList).map f)
 rw [List.getElem?_map,List.map_append]
 cases xs[c.1 + j]? <;> rfl
theorem zhi {α β : Type} (f : α → β) (xs : List α) : ∀ m,chs (xs.map f) m = (chs xs m).map fun d => (d.1,d.2.map f)
 | 0 => rfl
 | m + 1 => by
  show (chs (xs.map f) m).flatMap (nxt (xs.map f)) = ((chs xs m).flatMap (nxt xs)).map _
  rw [zhi f xs m,List.map_flatMap,List.flatMap_map]
  congr 1
  funext c
  exact zkj f xs c
theorem zeA {α β : Type} (f : α → β) (xs : List α) (m : Nat) : (chs (xs.map f) m).map (·.2) = ((chs xs m).map (·.2)).map (·.map f):=by
 rw [zhi,List.map_map,List.map_map]
 rfl
def PtB (H : Hp) : List Addr → List (Int × Int) → Prop:=Paired fun b q => H b = some (.tup [.int q.1,.int q.2])
theorem PtB.same {H H' : Hp} (s : zy H H') {bs : List Addr} {pts : List (Int × Int)} (h : PtB H bs pts) : PtB H' bs pts:=Paired.mono (fun _ _ z => s _ _ z) h
theorem PtB.zs {H : Hp} : ∀ {bs : List Addr} {pts : List (Int × Int)},PtB H bs pts → ∃ zs : List (Addr × Int × Int),bs = zs.map (·.1) ∧ pts = zs.map (·.2) ∧ ∀ z ∈ zs,H z.1 = some (.tup [.int z.2.1,.int z.2.2])
 | _,_,.nil => ⟨[],rfl,rfl,by simp⟩
 | _,_,.cons (a:=b) (b:=q) r t => by
  obtain ⟨zs,h1,h2,h3⟩:=PtB.zs t
  refine ⟨(b,q) :: zs,by rw [h1]; rfl,by rw [h2]; rfl,fun z hz => ?_⟩
  rcases (List.mem_cons.mp hz) with rfl | hz
  ·exact r
  ·exact h3 z hz
def zaM (H : Hp) : List Addr → List (List Int) → Prop:=Paired fun r q => H r = some (.tup (q.map V.int))
theorem zaM.same {H H' : Hp} (s : zy H H') {rs : List Addr} {qs : List (List Int)} (h : zaM H rs qs) : zaM H' rs qs:=Paired.mono (fun _ _ z => s _ _ z) h
theorem zaM.of {H : Hp} : ∀ {ps : List (Addr × List Int)},(∀ q ∈ ps,H q.1 = some (.tup (q.2.map V.int))) → zaM H (ps.map (·.1)) (ps.map (·.2))
 | [],_ => .nil
 | a :: ps,h => .cons (h a List.mem_cons_self) (zaM.of fun q hq => h q (List.mem_cons_of_mem _ hq))
theorem zjo {κ : Type} [DecidableEq κ] (kvs : List (κ × V)) (k : κ) (v : V) : (putK kvs k v).map (·.1) = if k ∈ kvs.map (·.1) then kvs.map (·.1) else kvs.map (·.1) ++ [k]:=by
 unfold putK
 by_cases h : (kvs.any fun kv => decide (kv.1 = k)) = true
 ·rw [if_pos h]
  obtain ⟨kv,h1,h2⟩:=List.any_eq_true.mp h
  have h2 : kv.1 = k:=by simpa using h2
  rw [if_pos (by rw [← h2]; exact List.mem_map_of_mem h1),List.map_map]
  refine List.map_congr_left fun a _ => ?_
  show (if a.1 = k then (a.1,v) else a).1 = a.1
  split <;> rfl
 ·rw [if_neg h]
  rw [if_neg (fun hm => h ?_),List.map_append]
  ·rfl
  ·obtain ⟨kv,h1,h2⟩:=List.mem_map.mp hm
   exact List.any_eq_true.mpr ⟨kv,h1,by simpa using h2⟩
theorem zkk {a b : List Int} (h : (a.map Sum.inl : List Key) = b.map Sum.inl) : a = b:=by
 induction a generalizing b with
 | nil => cases b with
  | nil => rfl
  | cons _ _ => simp at h
 | cons x a ih => cases b with
  | nil => simp at h
  | cons y b =>
   rw [List.map_cons,List.map_cons] at h
   obtain ⟨h1,h2⟩:=List.cons.inj h
   rw [Sum.inl.inj h1,ih h2]
def KeysAre (kvs : List (List Key × V)) (mss : List (List Int)) : Prop:=kvs.map (·.1) = mss.map (·.map Sum.inl)
theorem zf5 {kvs : List (List Key × V)} {mss : List (List Int)} (h : KeysAre kvs mss) (hn : mss.Nodup) (q : List Int) (v : V) : ∃ mss',KeysAre (putK kvs (q.map Sum.inl) v) mss' ∧ mss'.Nodup ∧ mss'.length ≤ mss.length + 1 ∧ ∀ x,x ∈ mss' ↔ x ∈ mss ∨ x = q:=by
 unfold KeysAre at h ⊢
 rw [zjo,h]
 have hm : (q.map Sum.inl : List Key) ∈ mss.map (·.map Sum.inl) ↔ q ∈ mss:=by
  constructor
  ·intro hm
   obtain ⟨x,hx,e⟩:=List.mem_map.mp hm
   rw [← zkk e]
   exact hx
  ·intro hm
   exact List.mem_map_of_mem hm
 by_cases hq : q ∈ mss
 ·refine ⟨mss,by rw [if_pos (hm.mpr hq)],hn,by omega,fun x => ⟨.inl,fun z => z.elim id fun e => e ▸ hq⟩⟩
 ·refine ⟨mss ++ [q],by rw [if_neg fun z => hq (hm.mp z),List.map_append]; rfl,?_,by rw [List.length_append]; exact Nat.le_refl _,fun x => by rw [List.mem_append,List.mem_singleton]⟩
  rw [List.nodup_append]
  exact ⟨hn,by simp,fun a ha b hb e => hq (by rw [← List.mem_singleton.mp hb,← e]; exact ha)⟩
def zkl (K : PySem.W.Frag) : Sp:=fun vs H Q _ => ∃ (c tt r : Addr) (p k : Int) (pl : List Int) (rw : List (Option Int)),vs = [.ref c,.ref r] ∧ zbd H c tt p k pl ∧ RowAt K H r pl.length rw ∧ pl.length ≤ 1000 ∧
 ∀ (l : Addr) (bs : List Addr) (H' : Hp),H l = none → zy H H' → H' l = some (.lst (bs.map V.ref)) → PtB H' bs (hps pl rw) → Q (.ref l) H'
def zdR (K : PySem.W.Frag) : Sp:=fun vs H Q _ => ∃ (c tt a : Addr) (p : Int) (k : Nat) (pl : List Int) (bs : List Addr) (pts : List (Int × Int)),vs = [.ref c,.ref a] ∧ zbd H c tt p k pl ∧ SqL K H a (bs.map V.ref) ∧ PtB H bs pts ∧ pts.length ≤ 16 ∧ p ∈ zw ∧ Pts p pts ∧ 1 ≤ k ∧ k ≤ 100 ∧
 ∀ (l : Addr) (rs : List Addr) (qs : List (List Int)) (H' : Hp),H l = none → zy H H' → H' l = some (.lst (rs.map V.ref)) → zaM H' rs qs → qs.length ≤ 65536 → zcP p k qs → (∀ q,q ∈ qs ↔ ∃ pk ∈ (chs pts k).map (·.2),q = thr p pk) → Q (.ref l) H'
end My
end
section
set_option maxHeartbeats 3999000
namespace My
open PySem L2 PyProof.Rows
section
variable {P : Program} {w : World} {K : PySem.W.Frag} {mg : Str → Option Value} {base : Heap} {t : Adr}
theorem zaF : FnScope ["code","row","p","k","places"] ["code","row"] (zi zaw):=⟨rfl,rfl,rfl,by decide +kernel,rfl,by decide +kernel,by decide +kernel⟩
theorem zc4 {fd : FuncData} (T : Txt K mg t) (F : Fun K "heard_points" "heard_points" zaw t.heard_points fd) : FnOk P w K mg base CX0 1 t.heard_points fd ["code","row"] (zkl K):=by
 refine F.ok zaF (fun vs H Q E h => ?_) (fun cdv A outer s H vs Q E hr h => ?_)
 ·obtain ⟨c,tt,r,p,k,pl,rw,rfl,_⟩:=h
  rfl
 ·obtain ⟨c,tt,r,p,k,pl,rw,rfl,hc,hr',hn,q⟩:=h
  refine ⟨_,(@zf _ _ _ _ _ (@zcj _ _ _ _ _ _ (@pvx _ 0 _ _ rfl) (@zbA _ _ _ _ _ _ rfl (@zq _ _ _ _ _ (@zj _ _ (2) _ zaF.nd rfl (Or.inl rfl) (by trivial)) (@zq _ _ _ _ _ (@zj _ _ (3) _ zaF.nd rfl (Or.inl rfl) (by trivial)) (@zq _ _ _ _ _ (@zj _ _ (4) _ zaF.nd rfl (Or.inl rfl) (by trivial)) (@z9 _) (by rfl)) (by rfl)) (by rfl)) (by rfl) (by rfl)) (by rfl) (by rfl) (by rfl)) (by exact (@zm _ _ _ (@zG _ _ _ _ (@zai _ _ _ _ _ _ _ _ _ _ _ _ _ (CompSc.of (N':=["place","entry"]) (ix:=[none,none]) (zi zaw) ["code","row","p","k","places"] rfl rfl (by decide +kernel)) rfl (@zbo _ _ _ _ (@zO _ _ _ rfl (@zO _ _ _ rfl (@za1 _)))) (@ziQ _ _ _ _ _ _ _ _ _ rfl T.zip_ (@za _ _ _ _ _ (@pvx _ 4 _ _ rfl) (@za _ _ _ _ _ (@pvx _ 1 _ _ rfl) (@zg _) (by rfl)) (by rfl)) (by rfl) (by rfl)) (fun _ _ _ _ => (@zaO _ (K) _ _ _ (2) _ rfl rfl (@zq _ _ _ _ _ (@zj _ _ (0) _ (show (["place","entry"] : List Str).Nodup by decide +kernel) rfl (Or.inl rfl) (by trivial)) (@zq _ _ _ _ _ (@zj _ _ (1) _ (show (["place","entry"] : List Str).Nodup by decide +kernel) rfl (Or.inl rfl) (by trivial)) (@z9 _) (by rfl)) (by rfl)) (by rfl) (by rfl))) (fun _ _ _ _ => (@zaB _ _ _ (@zD _ _ _ _ _ _ _ _ (@zc8 _) (@pvx _ 1 _ _ rfl) (@zbO _ _ _) (zN _)))) (fun _ _ _ _ => (@za5 _ _ _ _ _ (@za _ _ _ _ _ (@pvx _ 0 _ _ rfl) (@za _ _ _ _ _ (@pvx _ 1 _ _ rfl) (@zg _) (by rfl)) (by rfl)))) (by intro _; rfl)))))),?_⟩
  have hsl:=sizeLine_eq
  have hl:=hr'.len
  refine ⟨_,rfl,c,_,rfl,SqT.of hc.1,rfl,_,_,rfl,_,_,rfl,_,_,rfl,rfl,?_⟩
  refine ⟨_,rfl,_,rfl,tt,r,_,_,rfl,SqT.of hc.2,hr'.at',zU (n:=pl.length) (fun i ys H' => zy H H' ∧ ∃ us : List Addr,ys = us.map V.ref ∧ PtB H' us (hps (pl.take i) (rw.take i))) ⟨fun _ _ e => e,[],rfl,.nil⟩ ?_ ?_ ?_ ?_⟩
  ·rintro i ys H3 hi ⟨s3,_⟩
   obtain ⟨o,ho⟩ : ∃ o,rw[i]? = some o:=⟨rw[i]'(by omega),by simp⟩
   exact ⟨_,_,.int pl[i],enc o,SqT.of (s3 _ _ hc.2),s3.seq hr'.at',by rw [List.getElem?_map,List.getElem?_eq_getElem hi]; rfl,by rw [List.getElem?_map,ho]; rfl⟩
  ·rintro ys H3 ⟨s3,_⟩
   exact ⟨_,_,SqT.of (s3 _ _ hc.2),s3.seq hr'.at',.inl (by rw [List.length_map])⟩
  ·rintro i xx ys H3 H4 hi ⟨s3,us,rfl,hus⟩ ⟨T,u,v,hT,rfl,rfl,hu,hv⟩
   obtain ⟨x,rfl,hx⟩:=zas (hu _ (SqT.of (s3 _ _ hc.2)))
   obtain ⟨o,rfl,ho⟩:=zeV (hv _ (s3.seq hr'.at'))
   have v4:=ze (o:=.tup [.int x,enc o]) hT
   have s4:=s3.trans v4
   have hs:=zcI hx ho
   have hul:=hus.length
   have hb:=zdm (pl.take i) (rw.take i)
   rw [List.length_take] at hb
   refine ⟨T,_,rfl,SqT.of zb,rfl,_,_,rfl,_,_,rfl,rfl,?_⟩
   refine ⟨_,rfl,rfl,_,rfl,?_⟩
   cases o with
   | none =>
    refine zeH ⟨s4,us,rfl,?_⟩
    rw [hs,List.append_nil]
    exact hus.same v4
   | some z =>
    refine zlQ ⟨_,rfl,_,rfl,by show 2 ≤ sizeLine; omega,fun T2 hT2 => ⟨by rw [List.length_map]; omega,s4.trans (ze hT2),us ++ [T2],by rw [List.map_append]; rfl,?_⟩⟩
    rw [hs]
    exact Paired.snoc (hus.same (v4.trans (ze hT2))) zb
  ·rintro ys H3 D ⟨s3,us,rfl,hus⟩ hD
   rw [List.take_length,List.take_of_length_le (by omega)] at hus
   exact q D us _ (s3.free hD) (s3.trans (ze hD)) zb (hus.same (ze hD))
theorem zdo : FnScope ["code","row","polynomial","p","k","places"] ["code","row","polynomial"] (zi zdN):=⟨rfl,rfl,rfl,by decide +kernel,rfl,by decide +kernel,by decide +kernel⟩
theorem zkm {fd : FuncData} (T : Txt K mg t) (F : Fun K "fits" "fits" zdN t.fits fd) : FnOk P w K mg base CX0 2 t.fits fd ["code","row","polynomial"] (zgU K):=by
 obtain ⟨fd_value_at,F_value_at,b_value_at⟩:=T.f_value_at
 have G_value_at:=zcW (P:=P) (w:=w) (base:=base) T F_value_at
 refine F.ok zdo (fun vs H Q E h => ?_) (fun cdv A outer s H vs Q E hr h => ?_)
 ·obtain ⟨c,tt,ra,po,p,k,pl,poly,rw,rfl,_⟩:=h
  rfl
 ·obtain ⟨c,tt,ra,po,p,k,pl,poly,rw,rfl,hc,hra,hrl,hpo,p0,p1,hpl,hn,q⟩:=h
  refine ⟨_,(@zf _ _ _ _ _ (@zcj _ _ _ _ _ _ (@pvx _ 0 _ _ rfl) (@zbA _ _ _ _ _ _ rfl (@zq _ _ _ _ _ (@zj _ _ (3) _ zdo.nd rfl (Or.inr rfl) (by trivial)) (@zq _ _ _ _ _ (@zj _ _ (4) _ zdo.nd rfl (Or.inl rfl) (by trivial)) (@zq _ _ _ _ _ (@zj _ _ (5) _ zdo.nd rfl (Or.inl rfl) (by trivial)) (@z9 _) (by rfl)) (by rfl)) (by rfl)) (by rfl) (by rfl)) (by rfl) (by rfl) (by rfl)) (by exact (@zm _ _ _ (@zG _ _ _ _ (@zai _ _ _ _ _ _ _ _ _ _ _ _ _ (CompSc.of (N':=["at","place","entry","p","polynomial"]) (ix:=[none,none,none,some 3,some 2]) (zi zdN) ["code","row","polynomial","p","k","places"] rfl rfl (by decide +kernel)) rfl (@zbo _ _ _ _ (@zO _ _ _ rfl (@zhu _ _ _ (@zbo _ _ _ _ (@zO _ _ _ rfl (@zO _ _ _ rfl (@za1 _)))) (@za1 _) zgo))) (@zgn _ _ _ _ _ _ _ _ _ _ _ rfl T.enumerate_ rfl T.zip_ (@za _ _ _ _ _ (@pvx _ 5 _ _ rfl) (@za _ _ _ _ _ (@pvx _ 1 _ _ rfl) (@zg _) (by rfl)) (by rfl)) (by rfl) (by rfl) (by rfl)) (fun _ _ _ _ => (@zaO _ (K) _ _ _ (2) _ rfl rfl (@zq _ _ _ _ _ (@zj _ _ (0) _ (show (["at","place","entry","p","polynomial"] : List Str).Nodup by decide +kernel) rfl (Or.inl rfl) (by trivial)) (@zq _ _ _ _ _ (@zaO _ (K) _ _ _ (2) _ rfl rfl (@zq _ _ _ _ _ (@zj _ _ (1) _ (show (["at","place","entry","p","polynomial"] : List Str).Nodup by decide +kernel) rfl (Or.inl rfl) (by trivial)) (@zq _ _ _ _ _ (@zj _ _ (2) _ (show (["at","place","entry","p","polynomial"] : List Str).Nodup by decide +kernel) rfl (Or.inl rfl) (by trivial)) (@z9 _) (by rfl)) (by rfl)) (by rfl) (by rfl)) (@z9 _) (by rfl)) (by rfl)) (by rfl) (by rfl))) (fun _ _ _ _ => (@zaB _ _ _ (@zD _ _ _ _ _ _ _ _ (@zbQ _) (@pvx _ 2 _ _ rfl) (@zz _ _ _ _ _ _ _ _ _ _ _ _ _ _ _ _ G_value_at (hr.mono (by decide)) rfl T.m_value_at F_value_at.kp b_value_at .nil (@zW _) (@za _ _ _ _ _ (@pvx _ 3 _ _ rfl) (@za _ _ _ _ _ (@pvx _ 4 _ _ rfl) (@za _ _ _ _ _ (@pvx _ 1 _ _ rfl) (@zg _) (by rfl)) (by rfl)) (by rfl)) (by decide) (by rfl) (by rfl)) (zN _)))) (fun _ _ _ _ => (@pvx _ 0 _ _ rfl)) (by intro _; rfl)))))),?_⟩
  refine ⟨_,rfl,c,_,rfl,SqT.of hc.1,rfl,_,_,rfl,_,_,rfl,_,_,rfl,rfl,?_⟩
  refine ⟨_,rfl,_,rfl,tt,ra,_,_,rfl,SqT.of hc.2,SqL.of hra,zU (n:=pl.length) (fun i ys H' => ys = (zck p pl rw poly i).map V.int ∧ zy H H') ⟨rfl,fun _ _ e => e⟩ ?_ ?_ ?_ ?_⟩
  ·rintro i ys H3 hi ⟨_,s3⟩
   obtain ⟨o,ho⟩ : ∃ o,rw[i]? = some o:=⟨rw[i]'(by omega),by simp⟩
   exact ⟨_,_,.int pl[i],enc o,SqT.of (s3 _ _ hc.2),SqL.of (s3 _ _ hra),by rw [List.getElem?_map,List.getElem?_eq_getElem hi]; rfl,by rw [List.getElem?_map,ho]; rfl⟩
  ·rintro ys H3 ⟨_,s3⟩
   exact ⟨_,_,SqT.of (s3 _ _ hc.2),SqL.of (s3 _ _ hra),by rw [List.length_map]⟩
  ·rintro i xx ys H3 H4 hi ⟨rfl,s3⟩ ⟨T1,T2,u,v,hT1,hT2,hne,rfl,rfl,hu,hv⟩
   obtain ⟨x,rfl,hx⟩:=zas (hu _ (SqT.of (s3 _ _ hc.2)))
   obtain ⟨o,rfl,ho⟩:=zeV (hv _ (SqL.of (s3 _ _ hra)))
   obtain ⟨x0,x1⟩:=hpl x (List.mem_of_getElem? hx)
   have s4 : zy H3 (upd (upd H3 T1 (.tup [.int x,enc o])) T2 (.tup [.int i,.ref T1])):=zY (ze hT1) hT2
   refine ⟨T2,_,rfl,SqT.of zb,rfl,_,_,rfl,_,_,rfl,T1,_,rfl,SqT.of (by rw [zp hne]; exact zb),rfl,_,_,rfl,_,_,rfl,rfl,rfl,?_⟩
   refine ⟨_,rfl,_,rfl,_,rfl,_,rfl,p,x,po,poly,rfl,.inr (SqT.of ((s3.trans s4) _ _ hpo)),p0,p1,x0,x1,ziO o _,_,rfl,?_⟩
   rw [zer,zfz hx ho,List.map_append]
   have hlen:=zfy p pl rw poly i
   refine zaQ (fun h1 => ⟨_,rfl,zP (by rw [List.length_map]; omega),?_,s3.trans s4⟩) (fun h1 => ⟨?_,s3.trans s4⟩)
   ·rw [if_pos h1]
    rfl
   ·rw [if_neg h1]
    simp
  ·rintro ys H3 D ⟨rfl,s3⟩ hD
   exact q D _ (s3.free hD) (s3.trans (ze hD)) zb
theorem zcQ : FnScope ["code","row","polynomial","places","some"] ["code","row","polynomial"] (zi zbv):=⟨rfl,rfl,rfl,by decide +kernel,rfl,by decide +kernel,by decide +kernel⟩
theorem zeB {fd : FuncData} (T : Txt K mg t) (F : Fun K "_law_fits" "_law_fits" zbv t.l_fits fd) : FnOk P w K mg base CX0 2 t.l_fits fd ["code","row","polynomial"] (zhG K):=by
 obtain ⟨fd_l_value,F_l_value,b_l_value⟩:=T.f_l_value
 have G_l_value:=zcq (P:=P) (w:=w) (base:=base) T F_l_value
 refine F.ok zcQ (fun vs H Q E h => ?_) (fun cdv A outer s H vs Q E hr h => ?_)
 ·obtain ⟨c,tt,ra,po,p,k,pl,poly,rw,rfl,_⟩:=h
  rfl
 ·obtain ⟨c,tt,ra,po,p,k,pl,poly,rw,rfl,hc,hra,hrl,hpo,p0,p1,hpl,hn,q⟩:=h
  refine ⟨_,(@zf _ _ _ _ _ (@zn _ _ (3) _ _ _ _ zcQ.nd rfl (Or.inr rfl) (@zE _ _ _ _ _ _ _ (@za6 _) (@pvx _ 0 _ _ rfl) (@zh _ _ _ _) (fun _ _ => rfl)) (by rfl) (by trivial)) (by exact (@zf _ _ _ _ _ (@zav _ _ _ _ _ _ _ _ _ _ _ _ _ (4) _ _ _ zcQ.nd rfl (Or.inl rfl) (CompSc.of (N':=["number","row"]) (ix:=[none,some 1]) (zi zbv) ["code","row","polynomial","places","some"] rfl rfl (by decide +kernel)) rfl (@zam _ _ rfl) (@zaa _ _ _ _ _ _ rfl T.range_ (@za _ _ _ _ _ (@zr _ _ _ _ _ _ _ _ _ (@zB _) (by rfl) T.len_ boot_len (@za _ _ _ _ _ (@pvx _ 1 _ _ rfl) (@zg _) (by rfl)) (by decide) (by decide) (by rfl) (by rfl)) (@zg _) (by rfl)) (by rfl)) (fun _ _ _ _ => (@zj _ _ (0) _ (show (["number","row"] : List Str).Nodup by decide +kernel) rfl (Or.inl rfl) (by trivial))) (fun _ _ _ _ => (@zaB _ _ _ (@zD _ _ _ _ _ _ _ _ (@zc8 _) (@zE _ _ _ _ _ _ _ (@zbc _ (K) rfl) (@pvx _ 1 _ _ rfl) (@pvx _ 0 _ _ rfl) (fun _ _ => rfl)) (@zbO _ _ _) (zN _)))) (fun _ _ _ _ => (@pvx _ 0 _ _ rfl)) (by rfl) (by intro _; rfl) (by trivial)) (by exact (@zm _ _ _ (@zG _ _ _ _ (@zai _ _ _ _ _ _ _ _ _ _ _ _ _ (CompSc.of (N':=["number","code","polynomial","places","row"]) (ix:=[none,some 0,some 2,some 3,some 1]) (zi zbv) ["code","row","polynomial","places","some"] rfl rfl (by decide +kernel)) rfl (@zam _ _ rfl) (@zac _ _ _ _ (@pvx _ 4 _ _ rfl)) (fun _ _ _ _ => (@zj _ _ (0) _ (show (["number","code","polynomial","places","row"] : List Str).Nodup by decide +kernel) rfl (Or.inl rfl) (by trivial))) (fun _ _ _ _ => (@zaB _ _ _ (@zD _ _ _ _ _ _ _ _ (@zbQ _) (@zz _ _ _ _ _ _ _ _ _ _ _ _ _ _ _ _ G_l_value (hr.mono (by decide)) rfl T.m_l_value F_l_value.kp b_l_value .nil (@zW _) (@za _ _ _ _ _ (@zE _ _ _ _ _ _ _ (@zeL _ (K) rfl) (@pvx _ 1 _ _ rfl) (@zh _ _ _ _) (fun _ _ => rfl)) (@za _ _ _ _ _ (@pvx _ 2 _ _ rfl) (@za _ _ _ _ _ (@zE _ _ _ _ _ _ _ (@zeL _ (K) rfl) (@pvx _ 3 _ _ rfl) (@pvx _ 0 _ _ rfl) (fun _ _ => rfl)) (@zg _) (by rfl)) (by rfl)) (by rfl)) (by decide) (by rfl) (by rfl)) (@zE _ _ _ _ _ _ _ (@zbc _ (K) rfl) (@pvx _ 4 _ _ rfl) (@pvx _ 0 _ _ rfl) (fun _ _ => rfl)) (zN _)))) (fun _ _ _ _ => (@pvx _ 0 _ _ rfl)) (by intro _; rfl)))))))),?_⟩
  refine ⟨_,rfl,c,_,_,_,rfl,rfl,SqT.of hc.1,rfl,?_⟩
  refine ⟨_,rfl,ra,_,rfl,.inl (SqL.of hra),_,rfl,by rw [List.length_map]; omega,by rw [List.length_map]; omega,?_⟩
  rw [List.length_map,Int.toNat_natCast]
  refine zU (n:=rw.length) (fun i ys H' => ys = (zad rw i).map V.int ∧ H' = H) ⟨rfl,rfl⟩ (fun i ys H' hi _ => hi) (fun ys H' _ => Nat.le_refl _) ?_ ?_
  ·rintro i xx ys H4 H5 hi ⟨rfl,rfl⟩ ⟨rfl,rfl⟩
   obtain ⟨o,ho⟩ : ∃ o,rw[i]? = some o:=⟨rw[i]'(by omega),by simp⟩
   have hat : atI (rw.map enc) (0 + (i : Int)) = some (enc o):=by
    rw [Int.zero_add]
    exact zaD (by rw [List.getElem?_map,ho]; rfl)
   refine ⟨_,rfl,_,rfl,ra,_,_,_,rfl,rfl,SqL.of hra,hat,rfl,_,rfl,?_⟩
   have hl:=za8 rw i
   rw [zcl,ho,List.map_append]
   refine zaQ (fun h1 => ⟨_,rfl,zP (by rw [List.length_map]; omega),?_,rfl⟩) (fun h1 => ⟨?_,rfl⟩)
   ·cases o with
    | none => exact absurd h1 (by simp [enc])
    | some z => rw [Int.zero_add]; rfl
   ·cases o with
    | none => simp
    | some z => exact absurd (by simp [enc]) h1
  ·rintro ys H4 D ⟨rfl,rfl⟩ hD
   have sD:=ze (o:=.lst ((zad rw rw.length).map V.int)) hD
   have hDD : upd H4 D (.lst ((zad rw rw.length).map V.int)) D = some (.lst ((zad rw rw.length).map V.int)):=zb
   generalize upd H4 D (.lst ((zad rw rw.length).map V.int)) = H5 at sD hDD ⊢
   have hsl:=za8 rw rw.length
   refine ⟨_,rfl,D,rfl,⟨_,SqL.of hDD⟩,zeq (K:=K) (xs:=(zad rw rw.length).map V.int) (kp:=zk6 p pl rw poly) (f:=id) (SqL.of hDD) (by rw [List.length_map]; omega) ?_ ?_⟩
   ·intro j xx R B hx hR
    obtain ⟨z,rfl,hz⟩:=zas hx
    obtain ⟨m,rfl,hm⟩:=zhJ (List.mem_of_getElem? hz)
    obtain ⟨o,ho⟩ : ∃ o,rw[m]? = some o:=⟨rw[m]'(by omega),by simp⟩
    obtain ⟨x,hx⟩ : ∃ x,pl[m]? = some x:=⟨pl[m]'(by omega),by simp⟩
    obtain ⟨x0,x1⟩:=hpl x (List.mem_of_getElem? hx)
    refine ⟨_,rfl,c,_,_,_,rfl,rfl,SqT.of (sD _ _ hc.1),rfl,_,rfl,_,rfl,_,rfl,tt,_,_,.int x,rfl,rfl,SqT.of (sD _ _ hc.2),zaD (by rw [List.getElem?_map,hx]; rfl),p,x,po,poly,rfl,.inr (SqT.of (sD _ _ hpo)),p0,p1,x0,x1,_,rfl,_,rfl,ra,_,_,enc o,rfl,rfl,SqL.of (sD _ _ hra),zaD (by rw [List.getElem?_map,ho]; rfl),zhH o _,_,rfl,?_⟩
    have e : zk6 p pl rw poly (.int (m : Int)) = decide (V.int (zt p x poly) = enc o):=by
     show zbM p pl rw poly ((m : Int)).toNat = _
     rw [Int.toNat_natCast,zfz hx ho]
     exact decide_eq_decide.mpr ⟨fun e => e.symm,fun e => e.symm⟩
    rw [e] at hR
    refine zaQ (fun h1 => ⟨_,rfl,?_⟩) (fun h1 => ?_)
    ·rw [if_pos h1] at hR
     exact hR
    ·rw [if_neg h1] at hR
     exact hR
   ·intro D2 hD2
    refine q D2 _ (sD.free hD2) (sD.trans (ze hD2)) ?_
    rw [zb,zhI,hrl]
theorem zal : FnScope ["code","points","p","k","places","found","picked"] ["code","points"] (zi zaC):=⟨rfl,rfl,rfl,by decide +kernel,rfl,by decide +kernel,by decide +kernel⟩
theorem zdS {fd : FuncData} (T : Txt K mg t) (F : Fun K "all_through" "all_through" zaC t.all_through fd) : FnOk P w K mg base CX0 4 t.all_through fd ["code","points"] (zdR K):=by
 obtain ⟨fd_choices,F_choices,b_choices⟩:=T.f_choices
 have G_choices:=zgB (P:=P) (w:=w) (base:=base) T F_choices
 obtain ⟨fd_through,F_through,b_through⟩:=T.f_through
 have G_through:=zgA (P:=P) (w:=w) (base:=base) T F_through
 refine F.ok zal (fun vs H Q E h => ?_) (fun cdv A outer s H vs Q E hr h => ?_)
 ·obtain ⟨c,tt,a,p,k,pl,bs,pts,rfl,_⟩:=h
  rfl
 ·obtain ⟨c,tt,a,p,k,pl,bs,pts,rfl,hc,hS,hB,hn,hp,hP,k0,k1,q⟩:=h
  have hu : (A.deeper (envOfC (Str.ofString "all_through") (zi zaC) s.heap.objs.size t.all_through cdv)).units + 1 < cLine:=by have:=hr.units; omega
  refine ⟨_,(@zf _ _ _ _ _ (@zcj _ _ _ _ _ _ (@pvx _ 0 _ _ rfl) (@zbA _ _ _ _ _ _ rfl (@zq _ _ _ _ _ (@zj _ _ (2) _ zal.nd rfl (Or.inl rfl) (by trivial)) (@zq _ _ _ _ _ (@zj _ _ (3) _ zal.nd rfl (Or.inl rfl) (by trivial)) (@zq _ _ _ _ _ (@zj _ _ (4) _ zal.nd rfl (Or.inl rfl) (by trivial)) (@z9 _) (by rfl)) (by rfl)) (by rfl)) (by rfl) (by rfl)) (by rfl) (by rfl) (by rfl)) (by exact (@zf _ _ _ _ _ (@zn _ _ (5) _ _ _ _ zal.nd rfl (Or.inl rfl) (@zfH _ _) (by rfl) (by trivial)) (by exact (@zf _ _ _ _ _ (@zaG _ _ _ _ _ _ _ _ PassesOwn.never rfl (@zac _ _ _ _ (@zz _ _ _ _ _ _ _ _ _ _ _ _ _ _ _ _ G_choices (hr.mono (by decide)) rfl T.m_choices F_choices.kp b_choices .nil (@zW _) (@za _ _ _ _ _ (@pvx _ 1 _ _ rfl) (@za _ _ _ _ _ (@pvx _ 3 _ _ rfl) (@zg _) (by rfl)) (by rfl)) (by decide) (by rfl) (by rfl))) (@zj _ _ (6) _ zal.nd rfl (Or.inl rfl) (by trivial)) (@zm _ _ _ (@zgX _ _ _ _ _ _ _ _ _ hu (@pvx _ 5 _ _ rfl) (@zz _ _ _ _ _ _ _ _ _ _ _ _ _ _ _ _ G_through (hr.mono (by decide)) rfl T.m_through F_through.kp b_through .nil (@zW _) (@za _ _ _ _ _ (@pvx _ 2 _ _ rfl) (@za _ _ _ _ _ (@pvx _ 6 _ _ rfl) (@zg _) (by rfl)) (by rfl)) (by decide) (by rfl) (by rfl)) (@zcr _ _ _ _) rfl)) (by intro _; rfl)) (by exact (@zm _ _ _ (@zG _ _ _ _ (@zr _ _ _ _ _ _ _ _ _ (@ze1 _ rfl) (by rfl) T.sorted_ boot_sorted (@za _ _ _ _ _ (@pvx _ 5 _ _ rfl) (@zg _) (by rfl)) (by decide) (by decide) (by rfl) (by rfl)))))))))),?_⟩
  have hsl:=sizeLine_eq
  have rp:=zM hp
  obtain ⟨zs,rfl,rfl,hz⟩:=hB.zs
  rw [List.length_map] at hn
  refine ⟨_,rfl,c,_,rfl,SqT.of hc.1,rfl,_,_,rfl,_,_,rfl,_,_,rfl,rfl,fun D hD => ?_⟩
  have s0:=ze (o:=.dT []) hD
  have hD0 : upd H D (.dT []) D = some (.dT []):=zb
  generalize upd H D (.dT []) = H0 at s0 hD0 ⊢
  refine ⟨_,rfl,_,rfl,a,k,_,rfl,s0.seq hS,by rw [List.length_map,List.length_map]; omega,by omega,fun l ls H1 hl s1 h1l hpk => ?_⟩
  have hlD : l ≠ D:=fun e => by rw [e,hD0] at hl; cases hl
  rw [List.map_map,zeA (V.ref ∘ fun z : Addr × Int × Int => z.1) zs k] at hpk
  have hpl:=hpk.length
  rw [List.length_map,List.length_map] at hpl
  have hsm:=zcO (xs:=zs) k hn
  obtain ⟨zks,hzks⟩ : ∃ zks,(chs zs k).map (·.2) = zks:=⟨_,rfl⟩
  rw [hzks] at hpk
  have hzl : ls.length = zks.length:=by rw [hpl,← hzks,List.length_map]
  have hH1D : H1 D = some (.dT []):=s1 _ _ hD0
  have hid:=zbV H1 D
  refine ⟨l,rfl,⟨_,SqL.of h1l⟩,zbb (K:=K) (a:=l) (xs:=ls.map V.ref) (fun i σ H' => ∃ (kvs : List (List Key × V)) (mss : List (List Int)) (e6 : Option V),σ = [some (.ref c),some (.ref a),some (.int p),some (.int k),some (.ref tt),some (.ref D),e6] ∧
   zy (hide H1 D) H' ∧ H' D = some (.dT kvs) ∧ KeysAre kvs mss ∧ mss.Nodup ∧ mss.length ≤ i ∧ ∀ x,x ∈ mss ↔ ∃ zk ∈ zks.take i,x = thr p (zk.map (·.2)))
   ⟨[],[],none,rfl,hid,hH1D,rfl,by simp,Nat.le_refl _,fun x => by simp⟩ (fun i σ H' _ ⟨_,_,_,_,s3,_⟩ => SqL.of (s3 _ _ (zaE h1l hlD))) ?_ ?_⟩
  ·rintro i y σ H2 hy ⟨kvs,mss,e6,rfl,s2,h2D,hkm,hnd,hml,hmem⟩
   obtain ⟨b,rfl,hbi⟩:=zaj hy
   obtain ⟨hi,_⟩:=List.getElem?_eq_some_iff.mp hbi
   obtain ⟨vk,hvk,hb1⟩:=Paired.get hpk hbi
   obtain ⟨zk,hzk,rfl⟩ : ∃ zk,zks[i]? = some zk ∧ vk = zk.map (V.ref ∘ fun z : Addr × Int × Int => z.1):=by
    rw [List.getElem?_map] at hvk
    cases e : zks[i]? with
    | none => rw [e] at hvk; cases hvk
    | some zk => rw [e] at hvk; exact ⟨zk,rfl,(Option.some.inj hvk).symm⟩
   have hbD : b ≠ D:=fun e => by rw [e,hH1D] at hb1; cases hb1
   obtain ⟨hsub,hlen⟩:=zca.mp (by rw [hzks]; exact List.mem_of_getElem? hzk : zk ∈ (chs zs k).map (·.2))
   have hPk : Pts p (zk.map (·.2)):=hP.sub (hsub.map _)
   have hpts : ziK K H2 b (zk.map (·.2)):=by
    refine ⟨zk.map (·.1),?_,by rw [List.length_map,List.length_map],fun j b' q' h1 h2 => ?_⟩
    ·have:=s2 _ _ (zaE hb1 hbD)
     rw [List.map_map]
     exact SqL.of this
    ·rw [List.getElem?_map] at h1 h2
     cases e : zk[j]? with
     | none => rw [e] at h1; cases h1
     | some z =>
      rw [e] at h1 h2
      cases h1
      cases h2
      have hz1:=hz z (hsub.subset (List.mem_of_getElem? e))
      have hzD : z.1 ≠ D:=zu hz1 hD
      exact s2 _ _ (zaE ((s0.trans s1) _ _ hz1) hzD)
   have hmf : kvs.length = mss.length:=by
    have:=congrArg List.length hkm
    rw [List.length_map,List.length_map] at this
    exact this
   refine ⟨_,rfl,_,rfl,_,rfl,p,b,_,rfl,hpts,by rw [List.length_map]; omega,hp,hPk,fun tl H3 htl s3 h3 => ?_⟩
   have h3D:=s3 _ _ h2D
   refine ⟨D,_,rfl,zhS.t (k:=(thr p (zk.map (·.2))).map Sum.inl) h3D (by rw [h3,List.map_map]; rfl) (by omega),?_⟩
   obtain ⟨mss',m1,m2,m3,m4⟩:=zf5 hkm hnd (thr p (zk.map (·.2))) (.bl true)
   refine ⟨_,mss',_,rfl,?_,zb,m1,m2,by omega,fun x => ?_⟩
   ·refine zY (s2.trans s3) ?_
    unfold hide
    rw [if_pos rfl]
   ·rw [m4 x,hmem x,take_snoc hzk]
    constructor
    ·rintro (⟨zk',h1,h2⟩ | e)
     ·exact ⟨zk',List.mem_append_left _ h1,h2⟩
     ·exact ⟨zk,List.mem_append_right _ (List.mem_singleton.mpr rfl),e⟩
    ·rintro ⟨zk',h1,h2⟩
     rcases (List.mem_append.mp h1) with h1 | h1
     ·exact .inl ⟨zk',h1,h2⟩
     ·rw [List.mem_singleton.mp h1] at h2
      exact .inr h2
  ·rintro σ H2 ⟨kvs,mss,e6,rfl,s2,h2D,hkm,hnd,hml,hmem⟩
   rw [List.length_map,hzl] at hmem hml
   rw [List.take_length] at hmem
   rw [← hzl,hpl] at hml
   have hall : ∀ x,x ∈ mss ↔ ∃ pk ∈ (chs (zs.map (·.2)) k).map (·.2),x = thr p pk:=fun x => by
    rw [hmem x,zeA,hzks]
    constructor
    ·rintro ⟨zk,h1,h2⟩
     exact ⟨_,List.mem_map_of_mem h1,h2⟩
    ·rintro ⟨pk,h1,h2⟩
     obtain ⟨zk,h3,rfl⟩:=List.mem_map.mp h1
     exact ⟨zk,h3,h2⟩
   have hisP : ∀ x ∈ mss,IsP p k x:=fun x hx => by
    obtain ⟨pk,h1,rfl⟩:=(hall x).mp hx
    exact zki hp hP h1
   refine ⟨_,rfl,D,k,p,kvs,mss,rfl,h2D,hkm,fun ms hm => hisP ms hm,k0,by omega,fun r ps' hr' hperm hsort hH => ?_⟩
   have hHs : zy H H2:=fun x u e => s2 _ _ (zaE ((s0.trans s1) _ _ e) (zu e hD))
   have e1 : ps'.map (fun q => V.ref q.1) = (ps'.map (·.1)).map V.ref:=by rw [List.map_map]; rfl
   rw [e1]
   refine q r (ps'.map (·.1)) (ps'.map (·.2)) _ (hHs.free hr') (hHs.trans (ze hr')) zb ((zaM.of hH).same (ze hr')) (by rw [hperm.length_eq]; omega) (zhh (by omega) (fun x hx => hisP x (hperm.mem_iff.mp hx)) (hperm.nodup_iff.mpr hnd) ?_) fun x => ?_
   ·rw [List.pairwise_map]
    exact hsort
   ·rw [hperm.mem_iff]
    exact hall x
end
end My
end
section
set_option maxHeartbeats 3999000
namespace My
open PySem L2 PyProof.Rows
section
variable {P : Program} {w : World} {K : PySem.W.Frag} {mg : Str → Option Value} {base : Heap} {t : Adr}
def zkn (p : Int) (pts : List (Int × Int)) (H : Hp) : List Addr → List (List Int) → Prop:=Paired fun b q => ∃ r,H b = some (.tup [.int (hits p q pts : Int),.ref r]) ∧ H r = some (.tup (q.map V.int))
theorem zkn.same {p : Int} {pts : List (Int × Int)} {H H' : Hp} (s : zy H H') {bs : List Addr} {qs : List (List Int)} (h : zkn p pts H bs qs) : zkn p pts H' bs qs:=Paired.mono (fun _ _ ⟨r,z1,z2⟩ => ⟨r,s _ _ z1,s _ _ z2⟩) h
theorem zjp {p : Int} (hp : p ∈ zw) {pts pk : List (Int × Int)} (hP : Pts p pts) {k : Nat} (h : pk ∈ (chs pts k).map (·.2)) : k ≤ hits p (thr p pk) pts:=by
 obtain ⟨h1,h2⟩:=zca.mp h
 obtain ⟨_,_,h3⟩:=zeP hp (hP.sub h1)
 unfold hits
 have hs:=h1.filter (hit p (thr p pk))
 rw [List.filter_eq_self.mpr (fun a ha => by unfold hit; exact decide_eq_true (h3 a ha))] at hs
 have:=hs.length_le
 omega
def zgC (t : Adr) (K : PySem.W.Frag) : Sp:=fun vs H Q E => ∃ (c tt r : Addr) (p : Int) (k : Nat) (pl : List Int) (rw : List (Option Int)),vs = [.ref c,.ref r] ∧ zbd H c tt p k pl ∧ H r = some (.lst (rw.map enc)) ∧ rw.length = pl.length ∧ pl.length ≤ 16 ∧ p ∈ zw ∧ pl.Nodup ∧ (∀ x ∈ pl,0 ≤ x ∧ x < p) ∧ (∀ z,some z ∈ rw → 0 ≤ z ∧ z < p) ∧ 1 ≤ k ∧ k ≤ 100 ∧
 (((hps pl rw).length < k ∧ ∀ H',zy H H' → E (.ref t.TooFew) none H') ∨ (k ≤ (hps pl rw).length ∧ ∀ (z l : Addr) (rs : List Addr) (qs : List (List Int)) (M : Nat) (H' : Hp),H z = none → H l = none → zy H H' → H' z = some (.tup [.int (M : Int),.ref l]) → H' l = some (.lst (rs.map V.ref)) → zaM H' rs qs → qs.length ≤ 65536 → zcP p k qs → k ≤ M → (∃ q,IsP p k q ∧ hits p q (hps pl rw) = M) → (∀ q,IsP p k q → hits p q (hps pl rw) ≤ M) → (∀ q,q ∈ qs ↔ IsP p k q ∧ hits p q (hps pl rw) = M) → Q (.ref z) H'))
theorem zbe : FnScope ["code","row","k","points","counted","most"] ["code","row"] (zi zaV):=⟨rfl,rfl,rfl,by decide +kernel,rfl,by decide +kernel,by decide +kernel⟩
theorem zgD {fd : FuncData} (T : Txt K mg t) (F : Fun K "nearest" "nearest" zaV t.nearest fd) : FnOk P w K mg base (CX1 P w) 5 t.nearest fd ["code","row"] (zgC t K):=by
 obtain ⟨fd_heard_points,F_heard_points,b_heard_points⟩:=T.f_heard_points
 have G_heard_points:=zc4 (P:=P) (w:=w) (base:=base) T F_heard_points
 obtain ⟨fd_all_through,F_all_through,b_all_through⟩:=T.f_all_through
 have G_all_through:=zdS (P:=P) (w:=w) (base:=base) T F_all_through
 obtain ⟨fd_fits,F_fits,b_fits⟩:=T.f_fits
 have G_fits:=zkm (P:=P) (w:=w) (base:=base) T F_fits
 refine F.okX zbe (fun vs H Q E h => ?_) (fun cdv A outer s H vs Q E hr h => ?_)
 ·obtain ⟨c,tt,r,p,k,pl,rw,rfl,_⟩:=h
  rfl
 ·obtain ⟨c,tt,r,p,k,pl,rw,rfl,hc,hra,hrl,hn,hp,hnd,hpl,hrw,k0,k1,q⟩:=h
  refine ⟨_,(@zf _ _ _ _ _ (@zn _ _ (2) _ _ _ _ zbe.nd rfl (Or.inl rfl) (@zE _ _ _ _ _ _ _ (@za6 _) (@pvx _ 0 _ _ rfl) (@zh _ _ _ _) (fun _ _ => rfl)) (by rfl) (by trivial)) (by exact (@zf _ _ _ _ _ (@zn _ _ (3) _ _ _ _ zbe.nd rfl (Or.inl rfl) (@zz _ _ _ _ _ _ _ _ _ _ _ _ _ _ _ _ G_heard_points (hr.mono (by decide)) rfl T.m_heard_points F_heard_points.kp b_heard_points .nil (@zW _) (@za _ _ _ _ _ (@pvx _ 0 _ _ rfl) (@za _ _ _ _ _ (@pvx _ 1 _ _ rfl) (@zg _) (by rfl)) (by rfl)) (by decide) (by rfl) (by rfl)) (by rfl) (by trivial)) (by exact (@zf _ _ _ _ _ (@za7 _ _ _ _ _ _ _ _ (@zD _ _ _ _ _ _ _ _ (@zff _) (@zr _ _ _ _ _ _ _ _ _ (@zB _) (by rfl) T.len_ boot_len (@za _ _ _ _ _ (@pvx _ 3 _ _ rfl) (@zg _) (by rfl)) (by decide) (by decide) (by rfl) (by rfl)) (@pvx _ 2 _ _ rfl) (zN _)) (@zm _ _ _ (@ziW _ _ _ _ _ _ _ _ _ (fun _ _ _ _ _ _ _ _ I m q => zgq I m q) rfl rfl T.x_TooFew T.xi_TooFew (@zdq _ _ _ _) (by decide) (by rfl) (by rfl))) (@zaq _)) (by exact (@zf _ _ _ _ _ (@zav _ _ _ _ _ _ _ _ _ _ _ _ _ (4) _ _ _ zbe.nd rfl (Or.inl rfl) (CompSc.of (N':=["polynomial","code","row"]) (ix:=[none,some 0,some 1]) (zi zaV) ["code","row","k","points","counted","most"] rfl rfl (by decide +kernel)) rfl (@zam _ _ rfl) (@zac _ _ _ _ (@zz _ _ _ _ _ _ _ _ _ _ _ _ _ _ _ _ G_all_through (hr.mono (by decide)) rfl T.m_all_through F_all_through.kp b_all_through .nil (@zW _) (@za _ _ _ _ _ (@pvx _ 0 _ _ rfl) (@za _ _ _ _ _ (@pvx _ 3 _ _ rfl) (@zg _) (by rfl)) (by rfl)) (by decide) (by rfl) (by rfl))) (fun _ _ _ _ => (@zj _ _ (0) _ (show (["polynomial","code","row"] : List Str).Nodup by decide +kernel) rfl (Or.inl rfl) (by trivial))) (fun _ _ _ _ => (@z8 _)) (fun _ _ _ _ => (@za5 _ _ _ _ _ (@za _ _ _ _ _ (@zr _ _ _ _ _ _ _ _ _ (@zan _ (K) rfl) (by rfl) T.len_ boot_len (@za _ _ _ _ _ (@zz _ _ _ _ _ _ _ _ _ _ _ _ _ _ _ _ G_fits (hr.mono (by decide)) rfl T.m_fits F_fits.kp b_fits .nil (@zW _) (@za _ _ _ _ _ (@pvx _ 1 _ _ rfl) (@za _ _ _ _ _ (@pvx _ 2 _ _ rfl) (@za _ _ _ _ _ (@pvx _ 0 _ _ rfl) (@zg _) (by rfl)) (by rfl)) (by rfl)) (by decide) (by rfl) (by rfl)) (@zg _) (by rfl)) (by decide) (by decide) (by rfl) (by rfl)) (@za _ _ _ _ _ (@pvx _ 0 _ _ rfl) (@zg _) (by rfl)) (by rfl)))) (by rfl) (by intro _; rfl) (by trivial)) (by exact (@zf _ _ _ _ _ (@zn _ _ (5) _ _ _ _ zbe.nd rfl (Or.inr rfl) (@zr _ _ _ _ _ _ _ _ _ (@zez _ rfl) (by rfl) T.max_ boot_max (@za _ _ _ _ _ (@zai _ _ _ _ _ _ _ _ _ _ _ _ _ (CompSc.of (N':=["many","polynomial"]) (ix:=[none,none]) (zi zaV) ["code","row","k","points","counted","most"] rfl rfl (by decide +kernel)) rfl (@zbo _ _ _ _ (@zO _ _ _ rfl (@zO _ _ _ rfl (@za1 _)))) (@zac _ _ _ _ (@pvx _ 4 _ _ rfl)) (fun _ _ _ _ => (@zaO _ (K) _ _ _ (2) _ rfl rfl (@zq _ _ _ _ _ (@zj _ _ (0) _ (show (["many","polynomial"] : List Str).Nodup by decide +kernel) rfl (Or.inl rfl) (by trivial)) (@zq _ _ _ _ _ (@zj _ _ (1) _ (show (["many","polynomial"] : List Str).Nodup by decide +kernel) rfl (Or.inl rfl) (by trivial)) (@z9 _) (by rfl)) (by rfl)) (by rfl) (by rfl))) (fun _ _ _ _ => (@z8 _)) (fun _ _ _ _ => (@pvx _ 0 _ _ rfl)) (by intro _; rfl)) (@zg _) (by rfl)) (by decide) (by decide) (by rfl) (by rfl)) (by rfl) (by trivial)) (by exact (@zm _ _ _ (@zG _ _ _ _ (@za5 _ _ _ _ _ (@za _ _ _ _ _ (@pvx _ 5 _ _ rfl) (@za _ _ _ _ _ (@zai _ _ _ _ _ _ _ _ _ _ _ _ _ (CompSc.of (N':=["many","polynomial","most"]) (ix:=[none,none,some 5]) (zi zaV) ["code","row","k","points","counted","most"] rfl rfl (by decide +kernel)) rfl (@zbo _ _ _ _ (@zO _ _ _ rfl (@zO _ _ _ rfl (@za1 _)))) (@zac _ _ _ _ (@pvx _ 4 _ _ rfl)) (fun _ _ _ _ => (@zaO _ (K) _ _ _ (2) _ rfl rfl (@zq _ _ _ _ _ (@zj _ _ (0) _ (show (["many","polynomial","most"] : List Str).Nodup by decide +kernel) rfl (Or.inl rfl) (by trivial)) (@zq _ _ _ _ _ (@zj _ _ (1) _ (show (["many","polynomial","most"] : List Str).Nodup by decide +kernel) rfl (Or.inl rfl) (by trivial)) (@z9 _) (by rfl)) (by rfl)) (by rfl) (by rfl))) (fun _ _ _ _ => (@zaB _ _ _ (@zD _ _ _ _ _ _ _ _ (@zbQ _) (@pvx _ 0 _ _ rfl) (@pvx _ 2 _ _ rfl) (zN _)))) (fun _ _ _ _ => (@pvx _ 1 _ _ rfl)) (by intro _; rfl)) (@zg _) (by rfl)) (by rfl))))))))))))))),?_⟩
  have hsl:=sizeLine_eq
  have rp:=zM hp
  have hR : RowAt K H r pl.length rw:=⟨SqL.of hra,hrl⟩
  have hP:=zhf hnd hpl hrw
  have hhl:=zdm pl rw
  refine ⟨_,rfl,c,_,_,_,rfl,rfl,SqT.of hc.1,rfl,?_⟩
  refine ⟨_,rfl,_,rfl,c,tt,r,p,k,pl,rw,rfl,hc,hR,by omega,fun l bs H1 hl1 s1 h1l hB => ?_⟩
  have hbl : bs.length = (hps pl rw).length:=hB.length
  refine ⟨_,rfl,l,_,rfl,.inl (SqL.of h1l),_,rfl,_,_,rfl,rfl,_,rfl,?_⟩
  rw [List.length_map]
  rcases q with ⟨h1,q⟩ | ⟨h1,q⟩
  ·refine zaQ (fun _ => ?_) (fun h => absurd (decide_eq_true (by omega)) h)
   exact ⟨rfl,q H1 s1⟩
  refine zaQ (fun h => absurd (of_decide_eq_true h) (by omega)) (fun _ => ?_)
  refine ⟨_,rfl,_,rfl,c,tt,l,p,k,pl,_,_,rfl,hc.same s1,SqL.of h1l,hB,by omega,hp,hP,k0,k1,fun l2 rs qs H3 hl2 s3 h3l hT hql hRise hmem => ?_⟩
  have hrq:=hT.length
  have s13:=s1.trans s3
  have hne : qs ≠ []:=fun e => by
   have hm : thr p ((hps pl rw).take k) ∈ qs:=(hmem _).mpr ⟨(hps pl rw).take k,zca.mpr ⟨List.take_sublist _ _,by rw [List.length_take]; omega⟩,rfl⟩
   rw [e] at hm
   cases hm
  refine ⟨l2,rfl,⟨_,SqL.of h3l⟩,zU (n:=rs.length) (fun i ys H' => zy H3 H' ∧ ∃ us : List Addr,ys = us.map V.ref ∧ zkn p (hps pl rw) H' us (qs.take i)) ⟨fun _ _ e => e,[],rfl,.nil⟩ ?_ ?_ ?_ ?_⟩
  ·rintro i ys H4 hi ⟨s4,_⟩
   exact ⟨_,.ref rs[i],SqL.of (s4 _ _ h3l),by rw [List.getElem?_map,List.getElem?_eq_getElem hi]; rfl⟩
  ·rintro ys H4 ⟨s4,_⟩
   exact ⟨_,SqL.of (s4 _ _ h3l),by rw [List.length_map]; exact Nat.le_refl _⟩
  ·rintro i y ys H4 H5 hi ⟨s4,us,rfl,hus⟩ ⟨rfl,hy⟩
   obtain ⟨rb,rfl,hrb⟩:=zaj (hy _ (SqL.of (s4 _ _ h3l)))
   obtain ⟨qq,hqq,hat⟩:=Paired.get hT hrb
   have s14:=s13.trans s4
   have hul:=hus.length
   rw [List.length_take] at hul
   refine gY ⟨_,rfl,_,rfl,_,rfl,c,tt,r,rb,p,k,pl,qq,rw,rfl,hc.same s14,s14 _ _ hra,hrl,s4 _ _ hat,by omega,by omega,hpl,by omega,fun fl H6 hfl s6 h6 => ?_⟩
   refine ⟨fl,_,rfl,.inl (SqL.of h6),_,rfl,by show 2 ≤ sizeLine; omega,fun z hz => ?_⟩
   have ef : ((zck p pl rw qq pl.length).map V.int).length = hits p qq (hps pl rw):=by rw [List.length_map]; exact zdn hrl
   rw [ef]
   have s7:=ze (o:=.tup [.int (hits p qq (hps pl rw) : Int),.ref rb]) hz
   refine ⟨by rw [List.length_map]; omega,s4.trans (s6.trans s7),us ++ [z],by rw [List.map_append]; rfl,?_⟩
   rw [take_snoc hqq]
   exact Paired.snoc (hus.same (s6.trans s7)) ⟨rb,zb,(s4.trans (s6.trans s7)) _ _ hat⟩
  ·rintro ys H4 D ⟨s4,us,rfl,hus⟩ hD
   rw [hrq,List.take_length] at hus
   have v5:=ze (o:=.lst (us.map V.ref)) hD
   have h5d : upd H4 D (.lst (us.map V.ref)) D = some (.lst (us.map V.ref)):=zb
   have hus5:=hus.same v5
   have s15:=(s13.trans s4).trans v5
   generalize upd H4 D (.lst (us.map V.ref)) = H5 at v5 h5d hus5 s15 ⊢
   have huq:=hus5.length
   refine ⟨_,rfl,D,rfl,⟨_,SqL.of h5d⟩,zU (n:=us.length) (fun i ys H' => H' = H5 ∧ ys = ((qs.take i).map fun x => (hits p x (hps pl rw) : Int)).map V.int) ⟨rfl,rfl⟩ ?_ ?_ ?_ ?_⟩
   ·rintro i ys H' hi ⟨rfl,_⟩
    exact ⟨_,.ref us[i],SqL.of h5d,by rw [List.getElem?_map,List.getElem?_eq_getElem hi]; rfl⟩
   ·rintro ys H' ⟨rfl,_⟩
    exact ⟨_,SqL.of h5d,by rw [List.length_map]; exact Nat.le_refl _⟩
   ·rintro i y ys H' H6 hi ⟨rfl,rfl⟩ ⟨rfl,hy⟩
    obtain ⟨b,rfl,hb⟩:=zaj (hy _ (SqL.of h5d))
    obtain ⟨qq,hqq,rb,hat,hat2⟩:=Paired.get hus5 hb
    refine gY2 (SqT.of hat) ⟨_,rfl,?_,rfl,?_⟩
    ·rw [List.length_map,List.length_map,List.length_take]; omega
    ·rw [take_snoc hqq,List.map_append,List.map_append]; rfl
   ·rintro ys H' D2 ⟨rfl,rfl⟩ hD2
    rw [huq,List.take_length]
    have v6:=ze (o:=.lst ((qs.map fun x => (hits p x (hps pl rw) : Int)).map V.int)) hD2
    have h6d : upd H' D2 (.lst ((qs.map fun x => (hits p x (hps pl rw) : Int)).map V.int)) D2 = _:=zb
    refine ⟨D2,_,rfl,SqL.of h6d,fun e => hne (List.map_eq_nil_iff.mp e),fun M hM1 hM2 => ?_⟩
    have h6D:=v6 _ _ h5d
    have hus6:=hus5.same v6
    have s16:=s15.trans v6
    generalize upd H' D2 (.lst ((qs.map fun x => (hits p x (hps pl rw) : Int)).map V.int)) = H6 at v6 h6d h6D hus6 s16 ⊢
    obtain ⟨qM,hqM,rfl⟩:=List.mem_map.mp hM1
    obtain ⟨pM,hpM,eM⟩:=(hmem qM).mp hqM
    have hkM : k ≤ hits p qM (hps pl rw):=by rw [eM]; exact zjp hp hP hpM
    have hall : ∀ x,IsP p k x → k ≤ hits p x (hps pl rw) → x ∈ qs:=fun x hx hk => by
     obtain ⟨pk,h1,h2⟩:=zdQ hp hP (n:=(hps pl rw).length) hx (Nat.le_refl k) (by omega) hk
     rw [List.take_length] at h1
     exact (hmem x).mpr ⟨pk,h1,h2⟩
    have hmost : ∀ x,IsP p k x → hits p x (hps pl rw) ≤ hits p qM (hps pl rw):=fun x hx => by
     by_cases hk : k ≤ hits p x (hps pl rw)
     ·have:=hM2 _ (List.mem_map.mpr ⟨x,hall x hx hk,rfl⟩)
      omega
     ·omega
    have hqMP : IsP p k qM:=hRise.1 qM hqM
    have hex : ∃ x,IsP p k x ∧ hits p x (hps pl rw) = hits p qM (hps pl rw):=⟨qM,hqMP,rfl⟩
    generalize hits p qM (hps pl rw) = M at hkM hmost hex ⊢
    refine ⟨_,rfl,_,rfl,D,rfl,⟨_,SqL.of h6D⟩,zU (n:=us.length) (fun i ys H' => H' = H6 ∧ ∃ ws : List Addr,ys = ws.map V.ref ∧ ws.length ≤ i ∧ zaM H6 ws ((qs.take i).filter fun x => decide (hits p x (hps pl rw) = M))) ⟨rfl,[],rfl,Nat.le_refl _,.nil⟩ ?_ ?_ ?_ ?_⟩
    ·rintro i ys H' hi ⟨rfl,_⟩
     exact ⟨_,.ref us[i],SqL.of h6D,by rw [List.getElem?_map,List.getElem?_eq_getElem hi]; rfl⟩
    ·rintro ys H' ⟨rfl,_⟩
     exact ⟨_,SqL.of h6D,by rw [List.length_map]; exact Nat.le_refl _⟩
    ·rintro i y ys H' H7 hi ⟨rfl,ws,rfl,hwl,hws⟩ ⟨rfl,hy⟩
     obtain ⟨b,rfl,hb⟩:=zaj (hy _ (SqL.of h6D))
     obtain ⟨qq,hqq,rb,hat,hat2⟩:=Paired.get hus6 hb
     have hsn : (qs.take (i + 1)).filter (fun x => decide (hits p x (hps pl rw) = M)) = (qs.take i).filter (fun x => decide (hits p x (hps pl rw) = M)) ++ [qq].filter (fun x => decide (hits p x (hps pl rw) = M)):=by rw [take_snoc hqq,List.filter_append]
     refine ⟨b,_,rfl,SqT.of hat,rfl,_,_,rfl,_,_,rfl,rfl,?_⟩
     refine ⟨_,rfl,_,rfl,?_⟩
     refine ⟨rfl,_,rfl,?_⟩
     have eD : decide (V.int (hits p qq (hps pl rw) : Int) = V.int (M : Int)) = decide (hits p qq (hps pl rw) = M):=by
      by_cases h : hits p qq (hps pl rw) = M
      ·rw [h]; simp
      ·rw [decide_eq_false h,decide_eq_false fun e => h (by injection e with e; omega)]
     rw [eD]
     refine zaQ (fun h => ⟨_,rfl,?_,rfl,ws ++ [rb],by rw [List.map_append]; rfl,by rw [List.length_append]; exact Nat.succ_le_succ hwl,?_⟩) (fun h => ⟨rfl,ws,rfl,by omega,?_⟩)
     ·rw [List.length_map]; omega
     ·rw [hsn,List.filter_cons_of_pos (p:=fun x => decide (hits p x (hps pl rw) = M)) h]
      exact Paired.snoc hws hat2
     ·rw [hsn,List.filter_cons_of_neg (p:=fun x => decide (hits p x (hps pl rw) = M)) h,List.filter_nil,List.append_nil]
      exact hws
    ·rintro ys H' D3 ⟨rfl,ws,rfl,hwl,hws⟩ hD3
     rw [huq,List.take_length] at hws
     refine ⟨by show 2 ≤ sizeLine; omega,fun z hz => ?_⟩
     have v7:=ze (o:=.lst (ws.map V.ref)) hD3
     have h7d : upd H' D3 (.lst (ws.map V.ref)) D3 = some (.lst (ws.map V.ref)):=zb
     have hws7:=hws.same v7
     have s17:=s16.trans v7
     generalize upd H' D3 (.lst (ws.map V.ref)) = H7 at v7 h7d hws7 s17 hz ⊢
     have v8:=ze (o:=.tup [.int (M : Int),.ref D3]) hz
     refine q z D3 ws _ M _ (s17.free hz) (s16.free hD3) (s17.trans v8) zb (v8 _ _ h7d) (hws7.same v8) (Nat.le_trans (List.length_filter_le _ _) hql) (hRise.filter _) hkM hex hmost fun x => ?_
     rw [List.mem_filter,decide_eq_true_iff]
     constructor
     ·rintro ⟨h1,h2⟩
      exact ⟨hRise.1 x h1,h2⟩
     ·rintro ⟨h1,h2⟩
      exact ⟨hall x h1 (by omega),h2⟩
end
end My
end
section
set_option maxHeartbeats 3999000
namespace L2
open PySem PySem.Spec PyProof.Rows
def Itd (d : Addr) (o : Obj) (kvs : List (List Key × V)) : It :=
 ⟨fun i H => H d = some (.frz o (.dT kvs)) ∧ i < kvs.length,fun i H x H' => H' = H ∧ ∃ a k,x = .ref a ∧ (kvs.map (·.1))[i]? = some k ∧ H a = some (.tup (k.map kV)),fun i H => H d = some (.frz o (.dT kvs)) ∧ kvs.length ≤ i⟩
theorem zjq {P : Program} {w : World} {H : Hp} {h : Heap} {d : Addr} {o : Obj} {kvs : List (List Key × V)} {es : Array DictEntry} {ep : Nat} (hd : o.data = .dict es ep) (x : zR P w H h d (.frz o (.dT kvs))) :
  zc1 h d es ep ∧ es.size = kvs.length ∧ ∀ (i : Nat) (e : DictEntry),es[i]? = some e → ∃ a k,e.key = .ref a ∧ (kvs.map (·.1))[i]? = some k ∧ H a = some (.tup (k.map kV)):=by
 obtain ⟨ho,_,_,xs,hp,o',es',ep',ho',hx,he,hes,hnd⟩:=x
 have e1 : o' = o:=by rw [ho] at ho'; exact (Option.some.inj ho').symm
 subst e1
 rw [he] at hd
 cases hd
 have hl : es.toList.length = kvs.length:=by rw [hes,List.length_map]; exact (Paired.length hp).symm
 refine ⟨⟨o',ho,hx,he⟩,by simpa using hl,fun i e h => ?_⟩
 have h' : es.toList[i]? = some e:=by rw [Array.getElem?_toList]; exact h
 rw [hes,List.getElem?_map] at h'
 cases hxi : xs[i]? with
 | none => rw [hxi] at h'; cases h'
 | some x =>
  rw [hxi] at h'
  have he' : e = entryOfKey (tupleKind (zap P w)) x:=(Option.some.inj h').symm
  have key : ∀ {kvs : List (List Key × V)} {xs : List (List Key × Addr × Value)},Paired (fun (p : List Key × V) (q : List Key × Addr × Value) => p.1 = q.1 ∧ H q.2.1 = some (.tup (p.1.map kV)) ∧ RelV p.2 q.2.2) kvs xs → ∀ (i : Nat) x,xs[i]? = some x → ∃ p,kvs[i]? = some p ∧ H x.2.1 = some (.tup (p.1.map kV)):=by
   intro kvs xs hp
   induction hp with
   | nil => intro i x h; simp at h
   | cons h1 _ ih =>
    intro i x h
    cases i with
    | zero =>
     (simp only [List.getElem?_cons_zero,Option.some.injEq] at h)
     subst h
     exact ⟨_,rfl,h1.2.1⟩
    | succ i =>
     rw [List.getElem?_cons_succ] at h
     obtain ⟨p,hp,hh⟩:=ih i x h
     exact ⟨p,by rw [List.getElem?_cons_succ]; exact hp,hh⟩
  obtain ⟨p,hp',hh⟩:=key hp i x hxi
  exact ⟨x.2.1,p.1,by rw [he']; rfl,by rw [List.getElem?_map,hp']; rfl,hh⟩
theorem zko {P : Program} {w : World} {K : PySem.W.Frag} {tg : Expr} (d it : Addr) (o : Obj) (kvs : List (List Key × V)) (es : Array DictEntry) (ep : Nat) (hd : o.data = .dict es ep) : Turn P w K tg (Itd d o kvs) [it] it (fun i h => h.IsKeyIter it d i es.size ep) where
 mem:=by simp
 obj:=fun i h st b hb => by
  have e : b = it:=by simpa using hb
  subst e
  obtain ⟨o,e,c,d⟩:=st
  exact ⟨o,e,fun v z => by rw [d] at z; cases z⟩
 keep:=fun i h h' st k => st.at fun o e => k it (by simp) o e
 item:=by
  intro X hP hw hK hc i pins s σ H E I hf st hg
  subst hP hw hK
  obtain ⟨hq,hi⟩:=hg
  obtain ⟨hraw,hsz,hkey⟩:=zjq hd (I.hok d _ hq)
  have hi' : i < es.size:=by omega
  obtain ⟨a,k,he,hk,ha⟩:=hkey i es[i] (getElem?_pos es i hi')
  obtain ⟨f0,f1,f2,f3,f4,f5⟩:=hf it (by simp)
  refine zfT st hraw (getElem?_pos es i hi') fun h' st' sb => ?_
  have I1 : Inv X pins σ H { s with heap:=h' }:=I.turned (t':=s.toks) (fun b o hb e => (sb.2 b hb).trans e) f0 f1 f3 f4 f5
  obtain ⟨o,e,c,d⟩:=id st'
  exact ⟨_,rfl,zd4 (s:={ s with heap:=h' }) e c d (by decide) ⟨.ref a,H,I1,by rw [he]; rfl,⟨rfl,a,k,rfl,hk,ha⟩,st',fun b hb => (hf b hb).1⟩⟩
 done:=by
  intro X hP hw hK hc i pins s σ H E I hf st hg
  subst hP hw hK
  obtain ⟨hq,hi⟩:=hg
  obtain ⟨hraw,hsz,hkey⟩:=zjq hd (I.hok d _ hq)
  obtain ⟨f0,f1,f2,f3,f4,f5⟩:=hf it (by simp)
  exact zg9 (I.ok.hd hc) st hraw (by omega) fun h' eb => ⟨rfl,I.turned (t':=s.toks) (fun b o hb e => eb b o hb e) f0 f1 f3 f4 f5⟩
 self:=fun _ _ _ _ _ st h => wpAny_pyIter_keyiter st h
theorem Inv.frzT {X : Cx} {pins : List (Addr × Obj)} {σ : St} {H : Hp} {s : Shared} {d : Addr} {o : Obj} {kvs : List (List Key × V)} (I : Inv X pins σ H s) (hd : H d = some (.dT kvs)) (ho : s.heap.get? d = some o) : Inv X pins σ (upd H d (.frz o (.dT kvs))) s:=by
 have ne : ∀ b u,H b = some u → (∀ k,u ≠ .dT k) → b ≠ d:=fun b u e n z => by subst z; rw [hd] at e; exact n kvs (Option.some.inj e).symm
 have nn : ∀ b,H b = none → b ≠ d:=fun b e z => by subst z; rw [hd] at e; cases e
 have up : ∀ b,H b = none → upd H d (.frz o (.dT kvs)) b = none:=fun b e => by rw [zp (nn b e)]; exact e
 refine ⟨I.ok,I.os,I.bare,⟨I.base.keep,I.base.slot,fun b u e n hx => up b (I.base.free b u e n hx),I.base.there,fun b xs e => ?_,fun b u xs e => ?_,fun b ps e => ?_⟩,I.loc,I.cell,up _ I.free,fun x c e => up _ (I.freeC x c e),fun p hp' => ?_,fun b u e => ?_,I.len⟩
 ·have:=I.base.tups b xs e
  rw [zp (ne b _ this fun k z => by cases z)]
  exact this
 ·have:=I.base.frzs b u xs e
  rw [zp (ne b _ this fun k z => by cases z)]
  exact this
 ·obtain ⟨more,q⟩:=I.base.tbls b ps e
  exact ⟨more,by rw [zp (ne b _ q fun k z => by cases z)]; exact q⟩
 ·obtain ⟨a1,a2,a3⟩:=I.pin p hp'
  exact ⟨a1,up _ a2,a3⟩
 ·have stay : ∀ {u : HO} {b : Addr},zR X.prog X.w H s.heap b u → zR X.prog X.w (upd H d (.frz o (.dT kvs))) s.heap b u:=fun {u b} x => x.stay (fun c v _ q => q) (fun c q => by rw [zp (ne c _ q fun k z => by cases z)]; exact q) fun c xs q => by rw [zp (ne c _ q fun k z => by cases z)]; exact q
  by_cases hb : b = d
  ·subst hb
   rw [zb] at e
   cases e
   exact ⟨ho,stay (I.hok b _ hd)⟩
  ·rw [zp hb] at e
   exact stay (I.hok b u e)
def iDT (tl : TE) : TI:=fun σ H R => tl σ H fun x H1 => ∃ d kvs,x = .ref d ∧ H1 d = some (.dT kvs) ∧ ∀ o,R (Itd d o kvs) (upd H1 d (.frz o (.dT kvs)))
theorem zl4 {X : Cx} {tg l : Expr} {tl : TE} (hl : PE X l tl) : PI X tg l (iDT tl):=by
 intro pins s σ H R I h
 refine thn (hl pins s σ H _ I h) fun v s1 ⟨x,H1,I1,r1,q1⟩ => ?_
 obtain ⟨d,kvs,e,hd,q⟩:=q1
 subst e
 cases r1
 obtain ⟨hz,hs,xs,hp,o,es,ep,ho,hx,he,hes,hnd⟩:=I1.hok d _ hd
 have I2:=I1.frzT hd ho
 refine zfS (es:=es) (ep:=ep) hs ⟨o,ho,hx,he⟩ ?_
 refine ⟨s1.heap.objs.size,[s1.heap.objs.size],_,_,_,rfl,I2.kept (t':=s1.toks) fun b o e => Heap.get?_push_of_some _ e,zko d _ o kvs es ep he,⟨_,Heap.get?_push_size _ rfl,rfl,rfl⟩,fun b hb => ?_,q o⟩
 have e : b = s1.heap.objs.size:=by simpa using hb
 subst e
 exact I2.fpOk (Nat.le_refl _) (I2.hok.fresh (Nat.le_refl _))
def zls (K : PySem.W.Frag) : R2:=fun x y H Q => ∃ a b xs ys,x = .ref a ∧ y = .ref b ∧ SqT K H a xs ∧ SqT K H b ys ∧ ys ≠ [] ∧ xs.length + ys.length ≤ sizeLine ∧
 (xs = [] → Q (.ref b) H) ∧ (xs ≠ [] → ∀ p,H p = none → Q (.ref p) (upd H p (.tup (xs ++ ys))))
theorem zh9 {X : Cx} {K : PySem.W.Frag} (hK : X.K = K) : OpR X (binaryOp .Add) (zls K):=by
 subst hK
 intro pins s σ H x y v u Q I rx ry h
 obtain ⟨a,b,xs,ys,rfl,rfl,ha,hb,hy,hz,q1,q2⟩:=h
 by_cases hx : xs = []
 ·cases rx
  cases ry
  obtain ⟨its,r1,p1,_⟩:=I.tuple ha
  obtain ⟨its2,r2,p2,_⟩:=I.tuple hb
  obtain ⟨⟨cls,dd,data,sl⟩,ho,hc,n,hd⟩:=id p1
  obtain ⟨⟨cls2,dd2,data2,sl2⟩,ho2,hc2,n2,hd2⟩:=id p2
  simp only at hc hd hc2 hd2
  subst hc hd hc2 hd2
  exact concat_meets ⟨_,ho,rfl⟩ ⟨_,ho2,rfl⟩ noFill_tuple_add seq_tuple_add PySem.F.slot_tuple_add PySem.F.entry_tuple_add (PySem.F.args_tuple_add_2 _ _)
   (tuple_addW0 a b its.toArray its2.toArray n n2 dd dd2 sl sl2 (by simp [r1.nil_iff.mpr hx])) ⟨ho,ho2,⟨.ref b,H,I,rfl,q1 hx⟩⟩
 ·exact zjH pins s σ H _ _ v u Q I rx ry ⟨a,b,xs,ys,rfl,rfl,ha,hb,hx,hz,fun z => absurd z hy,fun _ => q2 hx⟩
end L2
end
section
set_option maxHeartbeats 3999000
namespace My
open PySem L2 PyProof.Rows
section
variable {P : Program} {w : World} {K : PySem.W.Frag} {mg : Str → Option Value} {base : Heap} {t : Adr}
def zgE : List Str:=["few","curve","paper","place","number","heard","not heard","nothing","text","row"]
def zia (t : Adr) (K : PySem.W.Frag) : Sp:=fun vs H Q _ => ∃ (e C : Addr) (b0 b1 b2 b3 b4 b5 b6 b7 b8 b9 : Bool) (j : Nat) (x : Str),vs = [.ref e] ∧ H e = some (ziR e C) ∧ KW K t C b0 b1 b2 b3 b4 b5 b6 b7 b8 b9 ∧ [b0,b1,b2,b3,b4,b5,b6,b7,b8,b9].count true = 1 ∧ [b0,b1,b2,b3,b4,b5,b6,b7,b8,b9][j]? = some true ∧ (∀ m,m < j → [b0,b1,b2,b3,b4,b5,b6,b7,b8,b9][m]? = some false) ∧ j < 10 ∧ zgE[j]? = some x ∧ ∀ H',zy H H' → Q (.str x) H'
theorem zbx : FnScope ["e","kinds","words"] ["e"] (zi zcG):=⟨rfl,rfl,rfl,by decide +kernel,rfl,by decide +kernel,by decide +kernel⟩
theorem zib {fd : FuncData} (T : Txt K mg t) (F : Fun K "_law_word" "_law_word" zcG t.l_word fd) : FnOkH P w K mg base 1 t.l_word fd ["e"] (zia t K):=by
 refine F.okH zbx (fun vs H Q E h => ?_) (fun cdv A outer s H vs Q E hr h => ?_)
 ·obtain ⟨e,C,b0,b1,b2,b3,b4,b5,b6,b7,b8,b9,j,x,rfl,_⟩:=h
  rfl
 ·obtain ⟨e,C,b0,b1,b2,b3,b4,b5,b6,b7,b8,b9,j,x,rfl,he,kw,hc,hj,hm,hj10,hx,q⟩:=h
  refine ⟨_,(@zf _ _ _ _ _ (@zn _ _ (1) _ _ _ _ zbx.nd rfl (Or.inl rfl) (@zL _ _ _ _ (@za _ _ _ _ _ (@zr _ _ _ _ _ _ _ _ _ (@zQ _) (by rfl) T.isinstance_ boot_isinstance (@za _ _ _ _ _ (@pvx _ 0 _ _ rfl) (@za _ _ _ _ _ (@zaY _ _ (.ref t.TooFew) _ _ rfl T.x_TooFew rfl (by decide)) (@zg _) (by rfl)) (by rfl)) (by decide) (by decide) (by rfl) (by rfl)) (by exact (@za _ _ _ _ _ (@zr _ _ _ _ _ _ _ _ _ (@zQ _) (by rfl) T.isinstance_ boot_isinstance (@za _ _ _ _ _ (@pvx _ 0 _ _ rfl) (@za _ _ _ _ _ (@zaY _ _ (.ref t.NoCurve) _ _ rfl T.x_NoCurve rfl (by decide)) (@zg _) (by rfl)) (by rfl)) (by decide) (by decide) (by rfl) (by rfl)) (@za _ _ _ _ _ (@zr _ _ _ _ _ _ _ _ _ (@zQ _) (by rfl) T.isinstance_ boot_isinstance (@za _ _ _ _ _ (@pvx _ 0 _ _ rfl) (@za _ _ _ _ _ (@zaY _ _ (.ref t.NoPaper) _ _ rfl T.x_NoPaper rfl (by decide)) (@zg _) (by rfl)) (by rfl)) (by decide) (by decide) (by rfl) (by rfl)) (@za _ _ _ _ _ (@zr _ _ _ _ _ _ _ _ _ (@zQ _) (by rfl) T.isinstance_ boot_isinstance (@za _ _ _ _ _ (@pvx _ 0 _ _ rfl) (@za _ _ _ _ _ (@zaY _ _ (.ref t.NoPlace) _ _ rfl T.x_NoPlace rfl (by decide)) (@zg _) (by rfl)) (by rfl)) (by decide) (by decide) (by rfl) (by rfl)) (@zg _) (by rfl)) (by rfl)) (by rfl))) (by rfl))) (by rfl) (by trivial)) (by exact (@zf _ _ _ _ _ (@zn _ _ (1) _ _ _ _ zbx.nd rfl (Or.inl rfl) (@zl _ _ _ _ _ _ _ _ (@zbC _) (@pvx _ 1 _ _ rfl) (@zL _ _ _ _ (@za _ _ _ _ _ (@zr _ _ _ _ _ _ _ _ _ (@zQ _) (by rfl) T.isinstance_ boot_isinstance (@za _ _ _ _ _ (@pvx _ 0 _ _ rfl) (@za _ _ _ _ _ (@zaY _ _ (.ref t.NoNumber) _ _ rfl T.x_NoNumber rfl (by decide)) (@zg _) (by rfl)) (by rfl)) (by decide) (by decide) (by rfl) (by rfl)) (@za _ _ _ _ _ (@zr _ _ _ _ _ _ _ _ _ (@zQ _) (by rfl) T.isinstance_ boot_isinstance (@za _ _ _ _ _ (@pvx _ 0 _ _ rfl) (@za _ _ _ _ _ (@zaY _ _ (.ref t.Heard) _ _ rfl T.x_Heard rfl (by decide)) (@zg _) (by rfl)) (by rfl)) (by decide) (by decide) (by rfl) (by rfl)) (@za _ _ _ _ _ (@zr _ _ _ _ _ _ _ _ _ (@zQ _) (by rfl) T.isinstance_ boot_isinstance (@za _ _ _ _ _ (@pvx _ 0 _ _ rfl) (@za _ _ _ _ _ (@zaY _ _ (.ref t.NotHeard) _ _ rfl T.x_NotHeard rfl (by decide)) (@zg _) (by rfl)) (by rfl)) (by decide) (by decide) (by rfl) (by rfl)) (@zg _) (by rfl)) (by rfl)) (by rfl)))) (by rfl) (by trivial)) (by exact (@zf _ _ _ _ _ (@zn _ _ (1) _ _ _ _ zbx.nd rfl (Or.inl rfl) (@zl _ _ _ _ _ _ _ _ (@zbC _) (@pvx _ 1 _ _ rfl) (@zL _ _ _ _ (@za _ _ _ _ _ (@zr _ _ _ _ _ _ _ _ _ (@zQ _) (by rfl) T.isinstance_ boot_isinstance (@za _ _ _ _ _ (@pvx _ 0 _ _ rfl) (@za _ _ _ _ _ (@zaY _ _ (.ref t.NothingLeft) _ _ rfl T.x_NothingLeft rfl (by decide)) (@zg _) (by rfl)) (by rfl)) (by decide) (by decide) (by rfl) (by rfl)) (@za _ _ _ _ _ (@zr _ _ _ _ _ _ _ _ _ (@zQ _) (by rfl) T.isinstance_ boot_isinstance (@za _ _ _ _ _ (@pvx _ 0 _ _ rfl) (@za _ _ _ _ _ (@zaY _ _ (.ref t.NoText) _ _ rfl T.x_NoText rfl (by decide)) (@zg _) (by rfl)) (by rfl)) (by decide) (by decide) (by rfl) (by rfl)) (@za _ _ _ _ _ (@zr _ _ _ _ _ _ _ _ _ (@zQ _) (by rfl) T.isinstance_ boot_isinstance (@za _ _ _ _ _ (@pvx _ 0 _ _ rfl) (@za _ _ _ _ _ (@zaY _ _ (.ref t.NoRow) _ _ rfl T.x_NoRow rfl (by decide)) (@zg _) (by rfl)) (by rfl)) (by decide) (by decide) (by rfl) (by rfl)) (@zg _) (by rfl)) (by rfl)) (by rfl)))) (by rfl) (by trivial)) (by exact (@zf _ _ _ _ _ (@za7 _ _ _ _ _ _ _ _ (@PW.pt _ _ _ (@zil _ _ _ _ _ _ _ (@zD _ _ _ _ _ _ _ _ (@zit _) (@zcu _ _ _ _ _ _ _ _ _ _ _ _ PySem.F.plainAttrs_list PySem.F.slot_list_count PySem.F.type_list_count (@zhQ _) (@pvx _ 1 _ _ rfl) (@za _ _ _ _ _ (@zcr _ _ _ _) (@zg _) (by rfl)) (by rfl) (by rfl) (by rfl) (by rfl) (by rfl)) (@zh _ _ _ _) (zN _)) (@zij _ _ _ _ (@zga _ _ _ _ (@zf9 _ _ _ (@zr _ _ _ _ _ _ _ _ _ (@zQ _) (by rfl) T.isinstance_ boot_isinstance (@za _ _ _ _ _ (@pvx _ 0 _ _ rfl) (@za _ _ _ _ _ (@zc6 _ _ (.ty "ValueError") _ _ rfl T.ValueError_ PyProof.Rows.Boot.ValueError rfl (by decide) (by decide)) (@zg _) (by rfl)) (by rfl)) (by decide) (by decide) (by rfl) (by rfl)) (by intro _; rfl)))))) (@zm _ _ _ (@zG _ _ _ _ (@zdq _ _ _ _))) (@zaq _)) (by exact (by exact (@ziY _ 2 _ _ _ _ _ _ _ ["few","curve","paper","place","number","heard","not heard","nothing","text","row"] (by decide +kernel) zbx.nd rfl (Or.inl rfl) (by first | exact .inl rfl | exact .inr rfl) (by exact (@zm _ _ _ (@zG _ _ _ _ (@zE _ _ _ _ _ _ _ (@zI _) (@pvx _ 2 _ _ rfl) (@zcu _ _ _ _ _ _ _ _ _ _ _ _ PySem.F.plainAttrs_list PySem.F.slot_list_index PySem.F.type_list_index (@zhR _) (@pvx _ 1 _ _ rfl) (@za _ _ _ _ _ (@zcr _ _ _ _) (@zg _) (by rfl)) (by rfl) (by rfl) (by rfl) (by rfl) (by rfl)) (fun _ _ => rfl))))))))))))))),?_⟩
  have hsl:=sizeLine_eq
  have xc:=kw.xc
  refine ⟨_,rfl,e,C,_,_,rfl,he,xc,.inl ⟨_,rfl,kw.i0⟩,_,rfl,e,C,_,_,rfl,he,xc,.inl ⟨_,rfl,kw.i1⟩,_,rfl,e,C,_,_,rfl,he,xc,.inl ⟨_,rfl,kw.i2⟩,_,rfl,e,C,_,_,rfl,he,xc,.inl ⟨_,rfl,kw.i3⟩,by show 4 ≤ sizeLine; omega,fun l1 hl1 => ?_⟩
  have s1:=ze (o:=.lst [.bl b0,.bl b1,.bl b2,.bl b3]) hl1
  have he1:=s1 _ _ he
  refine ⟨_,rfl,_,rfl,e,C,_,_,rfl,he1,xc,.inl ⟨_,rfl,kw.i4⟩,_,rfl,e,C,_,_,rfl,he1,xc,.inl ⟨_,rfl,kw.i5⟩,_,rfl,e,C,_,_,rfl,he1,xc,.inl ⟨_,rfl,kw.i6⟩,by show 3 ≤ sizeLine; omega,fun l2 hl2 => ?_⟩
  have s2:=ze (o:=.lst [.bl b4,.bl b5,.bl b6]) hl2
  refine ⟨l1,l2,_,_,rfl,rfl,s2 _ _ zb,zb,by show 7 ≤ sizeLine; omega,fun l3 hl3 => ?_⟩
  have s3:=ze (o:=.lst ([V.bl b0,.bl b1,.bl b2,.bl b3] ++ [.bl b4,.bl b5,.bl b6])) hl3
  have he3:=s3 _ _ (s2 _ _ he1)
  refine ⟨_,rfl,_,rfl,e,C,_,_,rfl,he3,xc,.inl ⟨_,rfl,kw.i7⟩,_,rfl,e,C,_,_,rfl,he3,xc,.inl ⟨_,rfl,kw.i8⟩,_,rfl,e,C,_,_,rfl,he3,xc,.inl ⟨_,rfl,kw.i9⟩,by show 3 ≤ sizeLine; omega,fun l4 hl4 => ?_⟩
  have s4:=ze (o:=.lst [.bl b7,.bl b8,.bl b9]) hl4
  refine ⟨l3,l4,_,_,rfl,rfl,s4 _ _ zb,zb,by show 10 ≤ sizeLine; omega,fun l5 hl5 => ?_⟩
  have s5:=ze (o:=.lst ([V.bl b0,.bl b1,.bl b2,.bl b3] ++ [.bl b4,.bl b5,.bl b6] ++ [.bl b7,.bl b8,.bl b9])) hl5
  have he5:=s5 _ _ (s4 _ _ he3)
  have sA:=s1.trans (s2.trans (s3.trans (s4.trans s5)))
  have h5 : upd (upd (upd (upd (upd H l1 (.lst [.bl b0,.bl b1,.bl b2,.bl b3])) l2 (.lst [.bl b4,.bl b5,.bl b6])) l3 (.lst ([V.bl b0,.bl b1,.bl b2,.bl b3] ++ [.bl b4,.bl b5,.bl b6]))) l4 (.lst [.bl b7,.bl b8,.bl b9])) l5 (.lst ([V.bl b0,.bl b1,.bl b2,.bl b3] ++ [.bl b4,.bl b5,.bl b6] ++ [.bl b7,.bl b8,.bl b9])) l5 = some (.lst ([b0,b1,b2,b3,b4,b5,b6,b7,b8,b9].map V.bl)):=zb
  generalize upd (upd (upd (upd (upd H l1 (.lst [.bl b0,.bl b1,.bl b2,.bl b3])) l2 (.lst [.bl b4,.bl b5,.bl b6])) l3 (.lst ([V.bl b0,.bl b1,.bl b2,.bl b3] ++ [.bl b4,.bl b5,.bl b6]))) l4 (.lst [.bl b7,.bl b8,.bl b9])) l5 (.lst ([V.bl b0,.bl b1,.bl b2,.bl b3] ++ [.bl b4,.bl b5,.bl b6] ++ [.bl b7,.bl b8,.bl b9])) = H5 at he5 sA h5 ⊢
  refine ⟨_,rfl,.inl ⟨rfl,_,SqL.of h5⟩,l5,_,true,rfl,rfl,h5,?_⟩
  rw [hc]
  refine ⟨rfl,_,rfl,?_⟩
  refine zeH ?_
  refine ⟨_,rfl,e,C,_,_,rfl,he5,xc,.inr ⟨_,rfl,kw.iv⟩,_,rfl,?_⟩
  refine zeH ?_
  refine ⟨by show 10 ≤ sizeLine; omega,fun lw hlw => ?_⟩
  have s6:=ze (o:=.lst (zgE.map V.str)) hlw
  refine ⟨_,rfl,_,rfl,.inl ⟨rfl,_,SqL.of (s6 _ _ h5)⟩,l5,_,true,j,rfl,rfl,s6 _ _ h5,hj,hm,by omega,?_⟩
  refine ⟨lw,_,_,.str x,rfl,rfl,SqL.of zb,?_,q _ (sA.trans s6)⟩
  exact zaD (xs:=zgE.map V.str) (by rw [List.getElem?_map,hx]; rfl)
def ToldN (p : Int) (k : Nat) (pl : List Int) (rw : List (Option Int)) (H H' : Hp) (v : V) : Prop:=((hps pl rw).length < k ∧ v = .str "few") ∨ (k ≤ (hps pl rw).length ∧ ∃ (z l : Addr) (rs : List Addr) (qs : List (List Int)) (M : Nat),v = .ref z ∧ H z = none ∧ H l = none ∧ H' z = some (.tup [.int (M : Int),.ref l]) ∧ H' l = some (.lst (rs.map V.ref)) ∧ zaM H' rs qs ∧ qs.length ≤ 65536 ∧ zcP p k qs ∧ k ≤ M ∧ (∃ q,IsP p k q ∧ hits p q (hps pl rw) = M) ∧ (∀ q,IsP p k q → hits p q (hps pl rw) ≤ M) ∧ (∀ q,q ∈ qs ↔ IsP p k q ∧ hits p q (hps pl rw) = M))
def zic (t : Adr) (K : PySem.W.Frag) : Sp:=fun vs H Q _ => ∃ (c tt r : Addr) (p : Int) (k : Nat) (pl : List Int) (rw : List (Option Int)),vs = [.ref c,.ref r] ∧ zbd H c tt p k pl ∧ H r = some (.lst (rw.map enc)) ∧ rw.length = pl.length ∧ pl.length ≤ 16 ∧ p ∈ zw ∧ pl.Nodup ∧ (∀ x ∈ pl,0 ≤ x ∧ x < p) ∧ (∀ z,some z ∈ rw → 0 ≤ z ∧ z < p) ∧ 1 ≤ k ∧ k ≤ 100 ∧
 ∀ v H',zy H H' → ToldN p k pl rw H H' v → Q v H'
theorem zby : FnScope ["code","row","found","e"] ["code","row"] (zi zcH):=⟨rfl,rfl,rfl,by decide +kernel,rfl,by decide +kernel,by decide +kernel⟩
theorem zid {fd : FuncData} (T : Txt K mg t) (F : Fun K "_law_told" "_law_told" zcH t.l_told fd) : FnOk P w K mg base CX0 7 t.l_told fd ["code","row"] (zic t K):=by
 obtain ⟨fd_nearest,F_nearest,b_nearest⟩:=T.f_nearest
 have G_nearest:=zgD (P:=P) (w:=w) (base:=base) T F_nearest
 obtain ⟨fd_l_word,F_l_word,b_l_word⟩:=T.f_l_word
 have G_l_word:=zib (P:=P) (w:=w) (base:=base) T F_l_word
 refine F.ok zby (fun vs H Q E h => ?_) (fun cdv A outer s H vs Q E hr h => ?_)
 ·obtain ⟨c,tt,r,p,k,pl,rw,rfl,_⟩:=h
  rfl
 ·obtain ⟨c,tt,r,p,k,pl,rw,rfl,hc,hra,hrl,hn,hp,hnd,hpl,hrw,k0,k1,q⟩:=h
  refine ⟨_,(@zf _ _ _ _ _ (@zn _ _ (2) _ _ _ _ zby.nd rfl (Or.inl rfl) (@zbO _ _ _) (by rfl) (by trivial)) (by exact (@zf _ _ _ _ _ (@zlb _ _ _ _ (3) _ _ _ _ _ _ _ _ rfl rfl rfl rfl T.x_SlipError T.sb zby.nd rfl rfl (fun xe pins σ E hp => (@zgs _ _ _ _ _ (@zhO _ _ _ _ _ _ _ (2) _ zby.nd rfl (Or.inl rfl) (@zgr _ _ _ _ _ _ _ _ _ _ _ _ _ _ _ _ _ _ G_nearest (hr.mono (by decide)) rfl T.m_nearest F_nearest.kp b_nearest .nil hp (@za _ _ _ _ _ (@pvx _ 0 _ _ rfl) (@za _ _ _ _ _ (@pvx _ 1 _ _ rfl) (@zg _) (by rfl)) (by rfl)) (by decide) (by rfl) (by rfl)) (by rfl) (by trivial)))) (fun e => zm (@zn _ _ (2) _ _ _ _ zby.nd rfl (Or.inl rfl) (@ziX _ _ _ _ _ _ _ _ _ _ _ _ G_l_word (RoomH.of (hr.mono (by decide))) rfl T.m_l_word F_l_word.kp b_l_word (@za _ _ _ _ _ (@pvx _ 3 _ _ rfl) (@zg _) (by rfl)) (by decide) (by rfl) (by rfl)) (by rfl) (by trivial))) (by decide)) (by exact (@zm _ _ _ (@zG _ _ _ _ (@pvx _ 2 _ _ rfl))))))),?_⟩
  refine ⟨_,rfl,_,rfl,c,tt,r,p,k,pl,rw,rfl,hc,hra,hrl,hn,hp,hnd,hpl,hrw,k0,k1,?_⟩
  by_cases h1 : (hps pl rw).length < k
  ·refine .inl ⟨h1,fun H1 s1 => ⟨_,rfl,T.kw_TooFew.sl,fun e he => ?_⟩⟩
   refine ⟨_,rfl,e,_,_,_,_,_,_,_,_,_,_,_,0,"few",rfl,zb,T.kw_TooFew,rfl,rfl,by decide,by decide,rfl,fun H' s' => ?_⟩
   exact ⟨_,rfl,q _ H' (s1.trans ((ze he).trans s')) (.inl ⟨h1,rfl⟩)⟩
  ·refine .inr ⟨by omega,fun z l rs qs M H' hz hl s' h1' h2' ht hz' hR hk hex hmo hm => ?_⟩
   exact ⟨_,rfl,q _ H' s' (.inr ⟨by omega,z,l,rs,qs,M,rfl,hz,hl,h1',h2',ht,hz',hR,hk,hex,hmo,hm⟩)⟩
end
end My
end
section
set_option maxHeartbeats 3999000
namespace My
open PySem L2 PyProof.Rows
theorem zbr {α β : Type} {F : α → β → Prop} : ∀ {a : List α} {b : List β} {c : List α} {d : List β},Paired F a b → Paired F c d → Paired F (a ++ c) (b ++ d)
 | _,_,_,_,.nil,h => h
 | _,_,_,_,.cons r t,h => .cons r (zbr t h)
def zie (H : Hp) : List Addr → List (List Int) → Prop:=Paired fun l c => H l = some (.lst (c.map V.int))
theorem zie.same {H H' : Hp} (s : zy H H') {ls : List Addr} {cs : List (List Int)} (h : zie H ls cs) : zie H' ls cs:=Paired.mono (fun _ _ z => s _ _ z) h
def zjr (K : PySem.W.Frag) : Nat → Sp
 | 0 => fun _ _ _ _ => False
 | m + 1 => fun vs H Q _ => ∃ (a : Addr) (ns : List Int),vs = [.ref a,.int (m : Int)] ∧ SqL K H a (ns.map V.int) ∧ ns.length ≤ 16 ∧ m ≤ 100 ∧
  ∀ (l : Addr) (ls : List Addr) (cs : List (List Int)) (H' : Hp),H l = none → zy H H' → H' l = some (.lst (ls.map V.ref)) → zie H' ls cs → cs.length ≤ 2 ^ ns.length → (∀ c,c ∈ cs ↔ c.Sublist ns ∧ c.length = m) → Q (.ref l) H'
theorem zif {α : Type} {xs : List α} {m : Nat} {c : List α} : (c.Sublist xs ∧ c.length = m + 1) ↔ ∃ (j : Nat) (x : α) (c' : List α),j < xs.length ∧ xs[j]? = some x ∧ c = x :: c' ∧ c'.Sublist (xs.drop (j + 1)) ∧ c'.length = m:=by
 constructor
 ·rintro ⟨h,hl⟩
  cases c with
  | nil => simp at hl
  | cons x c' =>
   have go : ∀ {xs : List α},(x :: c').Sublist xs → ∃ j,j < xs.length ∧ xs[j]? = some x ∧ c'.Sublist (xs.drop (j + 1)):=by
    intro xs h
    induction xs with
    | nil => exact absurd (List.sublist_nil.mp h) (by simp)
    | cons y ys ih =>
     cases h with
     | cons _ h =>
      obtain ⟨j,h1,h2,h3⟩:=ih h
      exact ⟨j + 1,by rw [List.length_cons]; omega,by rw [List.getElem?_cons_succ]; exact h2,by rw [List.drop_succ_cons]; exact h3⟩
     | cons_cons _ h => exact ⟨0,by rw [List.length_cons]; omega,rfl,h⟩
   obtain ⟨j,h1,h2,h3⟩:=go h
   exact ⟨j,x,c',h1,h2,rfl,h3,by simpa using hl⟩
 ·rintro ⟨j,x,c',h1,h2,rfl,h3,h4⟩
  refine ⟨?_,by rw [List.length_cons,h4]⟩
  have e:=zbF h2
  rw [e]
  exact (h3.cons_cons x).trans (List.sublist_append_right _ _)
def zcX (p : Int) (q : List Int) : List (List Int):=(List.range p.toNat).map fun n : Nat => q ++ [(n : Int)]
theorem zig (p : Int) (q : List Int) : (zcX p q).length = p.toNat:=by unfold zcX; rw [List.length_map,List.length_range]
theorem zjs {p : Int} {i : Nat} {q' : List Int} : IsP p (i + 1) q' ↔ ∃ q,IsP p i q ∧ q' ∈ zcX p q:=by
 constructor
 ·rintro ⟨h1,h2⟩
  have hne : q' ≠ []:=fun e => by rw [e] at h1; simp at h1
  (have e:=List.dropLast_concat_getLast hne)
  refine ⟨q'.dropLast,⟨by rw [List.length_dropLast]; omega,fun c hc => h2 c (List.dropLast_subset _ hc)⟩,?_⟩
  obtain ⟨b0,b1⟩:=h2 _ (List.getLast_mem hne)
  unfold zcX
  refine List.mem_map.mpr ⟨(q'.getLast hne).toNat,List.mem_range.mpr (by omega),?_⟩
  rw [show (((q'.getLast hne).toNat : Nat) : Int) = q'.getLast hne by omega]
  exact e
 ·rintro ⟨q,⟨h1,h2⟩,h⟩
  unfold zcX at h
  obtain ⟨n,hn,rfl⟩:=List.mem_map.mp h
  have:=List.mem_range.mp hn
  refine ⟨by rw [List.length_append,h1]; rfl,fun c hc => ?_⟩
  rcases (List.mem_append.mp hc) with hc | hc
  ·exact h2 c hc
  ·rw [List.mem_singleton.mp hc]
   omega
theorem zjt {p : Int} {i : Nat} {qs : List (List Int)} (h : ∀ q,q ∈ qs ↔ IsP p i q) : ∀ q,q ∈ qs.flatMap (zcX p) ↔ IsP p (i + 1) q:=fun q => by
 rw [List.mem_flatMap,zjs]
 constructor
 ·rintro ⟨a,h1,h2⟩
  exact ⟨a,(h a).mp h1,h2⟩
 ·rintro ⟨a,h1,h2⟩
  exact ⟨a,(h a).mpr h1,h2⟩
theorem zcJ {p : Int} : ∀ qs : List (List Int),(qs.flatMap (zcX p)).length = qs.length * p.toNat
 | [] => by simp
 | q :: qs => by
  rw [List.flatMap_cons,List.length_append,zig,zcJ qs,List.length_cons,Nat.succ_mul]
  omega
def zju (K : PySem.W.Frag) : Sp:=fun vs H Q _ => ∃ (p : Int) (k : Nat),vs = [.int p,.int (k : Int)] ∧ 0 < p ∧ p ≤ 97 ∧ k ≤ 2 ∧
 ∀ (l : Addr) (rs : List Addr) (qs : List (List Int)) (H' : Hp),H l = none → zy H H' → H' l = some (.lst (rs.map V.ref)) → zaM H' rs qs → qs.length ≤ 10000 → (∀ q,q ∈ qs ↔ IsP p k q) → Q (.ref l) H'
end My
end
section
set_option maxHeartbeats 3999000
namespace My
open PySem L2 PyProof.Rows
section
variable {P : Program} {w : World} {K : PySem.W.Frag} {mg : Str → Option Value} {base : Heap} {t : Adr}
theorem zjv (xs : List V) (i : Nat) : zdr xs (some (i : Int)) none = xs.drop i:=by
 unfold zdr
 rw [HT.sIx_nat,HT.sIx_none]
 by_cases h : i ≤ xs.length
 ·rw [Nat.min_eq_left h]
  exact List.take_of_length_le (by rw [List.length_drop]; exact Nat.le_refl _)
 ·rw [Nat.min_eq_right (by omega),List.drop_eq_nil_of_le (Nat.le_refl _),List.drop_eq_nil_of_le (by omega)]
  simp
theorem za9 : FnScope ["some","many","found","at"] ["some","many"] (zi zaL):=⟨rfl,rfl,rfl,by decide +kernel,rfl,by decide +kernel,by decide +kernel⟩
theorem zci : ∀ (m : Nat) {fd : FuncData} (T : Txt K mg t) (F : Fun K "_law_choices" "_law_choices" zaL t.l_choices fd),FnOk P w K mg base CX0 (m + 1) t.l_choices fd ["some","many"] (zjr K m):=by
 intro m
 induction m with
 | zero => exact fun {fd} T F => F.ok za9 (fun vs H Q E h => h.elim) (fun cdv A outer s H vs Q E hr h => h.elim)
 | succ m ih =>
  intro fd T F
  obtain ⟨fd_l_choices,F_l_choices,b_l_choices⟩:=T.f_l_choices
  have G_l_choices:=ih T F_l_choices
  refine F.ok za9 (fun vs H Q E h => ?_) (fun cdv A outer s H vs Q E hr h => ?_)
  ·obtain ⟨a,ns,rfl,_⟩:=h
   rfl
  obtain ⟨a,ns,rfl,hS,hn,hm,q⟩:=h
  refine ⟨_,(@zf _ _ _ _ _ (@za7 _ _ _ _ _ _ _ _ (@zD _ _ _ _ _ _ _ _ (@zbQ _) (@pvx _ 1 _ _ rfl) (@zh _ _ _ _) (zN _)) (@zm _ _ _ (@zG _ _ _ _ (@zL _ _ _ _ (@za _ _ _ _ _ (@zL _ _ _ _ (@zg _)) (@zg _) (by rfl))))) (@zaq _)) (by exact (@zf _ _ _ _ _ (@zn _ _ (2) _ _ _ _ za9.nd rfl (Or.inl rfl) (@zL _ _ _ _ (@zg _)) (by rfl) (by trivial)) (by exact (@zf _ _ _ _ _ (@zaG _ _ _ _ _ _ _ _ PassesOwn.never rfl (@zaa _ _ _ _ _ _ rfl T.range_ (@za _ _ _ _ _ (@zr _ _ _ _ _ _ _ _ _ (@zB _) (by rfl) T.len_ boot_len (@za _ _ _ _ _ (@pvx _ 0 _ _ rfl) (@zg _) (by rfl)) (by decide) (by decide) (by rfl) (by rfl)) (@zg _) (by rfl)) (by rfl)) (@zj _ _ (3) _ za9.nd rfl (Or.inr rfl) (by trivial)) (@zm _ _ _ (@zbZ _ _ _ _ (@zcu _ _ _ _ _ _ _ _ _ _ _ _ PySem.F.plainAttrs_list PySem.F.slot_list_extend PySem.F.type_list_extend (@zef _) (@pvx _ 2 _ _ rfl) (@za _ _ _ _ _ (@zai _ _ _ _ _ _ _ _ _ _ _ _ _ (CompSc.of (N':=["one","some","at"]) (ix:=[none,some 0,some 3]) (zi zaL) ["some","many","found","at"] rfl rfl (by decide +kernel)) rfl (@zam _ _ rfl) (@zac _ _ _ _ (@zz _ _ _ _ _ _ _ _ _ _ _ _ _ _ _ _ G_l_choices (hr.mono (Nat.le_refl _)) rfl T.m_l_choices F_l_choices.kp b_l_choices .nil (@zW _) (@za _ _ _ _ _ (@zct _ _ _ _ _ _ _ _ _ _ zdb (@pvx _ 0 _ _ rfl) (@zda _ _ _ (@zl _ _ _ _ _ _ _ _ (@zag _) (@pvx _ 3 _ _ rfl) (@zh _ _ _ _))) (@zc9 _)) (@za _ _ _ _ _ (@zl _ _ _ _ _ _ _ _ (@zbP _) (@pvx _ 1 _ _ rfl) (@zh _ _ _ _)) (@zg _) (by rfl)) (by rfl)) (by decide) (by rfl) (by rfl))) (fun _ _ _ _ => (@zj _ _ (0) _ (show (["one","some","at"] : List Str).Nodup by decide +kernel) rfl (Or.inl rfl) (by trivial))) (fun _ _ _ _ => (@z8 _)) (fun _ _ _ _ => (@zl _ _ _ _ _ _ _ _ (@zbC _) (@zL _ _ _ _ (@za _ _ _ _ _ (@zE _ _ _ _ _ _ _ (@zbc _ (K) rfl) (@pvx _ 1 _ _ rfl) (@pvx _ 2 _ _ rfl) (fun _ _ => rfl)) (@zg _) (by rfl))) (@pvx _ 0 _ _ rfl))) (by intro _; rfl)) (@zg _) (by rfl)) (by rfl) (by rfl) (by rfl) (by rfl) (by rfl)) (by rfl))) (by intro _; rfl)) (by exact (@zm _ _ _ (@zG _ _ _ _ (@pvx _ 2 _ _ rfl))))))))),?_⟩
  have hsl:=sizeLine_eq
  have r0 : zy H H:=fun _ _ e => e
  refine ⟨_,rfl,rfl,_,rfl,zaQ (fun h0 => ?_) (fun h0 => ?_)⟩
  ·have h0 : (m : Int) = 0:=by
    have:=of_decide_eq_true h0
    injection this
   have h0 : m = 0:=by omega
   subst h0
   refine ⟨Nat.zero_le _,fun L0 hL0 => ⟨by show 1 ≤ sizeLine; omega,fun l hl => ?_⟩⟩
   have u0:=ze (o:=.lst []) hL0
   refine q l [L0] [[]] _ (u0.free hl) (u0.trans (ze hl)) zb (.cons ((ze hl) _ _ zb) .nil) (Nat.one_le_two_pow) fun c => ?_
   rw [List.mem_singleton,List.length_eq_zero_iff]
   exact ⟨fun e => by subst e; exact ⟨List.nil_sublist _,rfl⟩,fun e => e.2⟩
  ·have h0 : m ≠ 0:=fun z => h0 (decide_eq_true (by rw [z]; rfl))
   cases m with
   | zero => exact absurd rfl h0
   | succ m =>
   refine ⟨Nat.zero_le _,fun D hD => ?_⟩
   have s0:=ze (o:=.lst []) hD
   have h2n : 2 ^ ns.length ≤ 65536:=Nat.le_trans (Nat.pow_le_pow_right (by decide) hn) (by decide)
   refine ⟨_,rfl,a,_,rfl,.inl (s0.seq hS),_,rfl,by rw [List.length_map]; omega,by rw [List.length_map]; omega,?_⟩
   rw [List.length_map,Int.toNat_natCast]
   refine zaS (lo:=0) (n:=ns.length) (fun i σ H' => ∃ (e3 : Option V) (ls : List Addr) (cs : List (List Int)),σ = [some (.ref a),some (.int ((m + 1 : Nat) : Int)),some (.ref D),e3] ∧ zy H H' ∧ H' D = some (.lst (ls.map V.ref)) ∧ zie (hide H' D) ls cs ∧ cs.length + 2 ^ (ns.length - i) ≤ 2 ^ ns.length ∧
    ∀ c,c ∈ cs ↔ ∃ (j : Nat) (x : Int) (c' : List Int),j < i ∧ ns[j]? = some x ∧ c = x :: c' ∧ c'.Sublist (ns.drop (j + 1)) ∧ c'.length = m)
    ⟨none,[],[],rfl,s0,zb,.nil,by simp,fun c => by simp⟩ ?_ ?_
   ·rintro i σ H1 hi ⟨e3,ls,cs,rfl,s1,h1D,hI,hlen,hmem⟩
    have hil:=hI.length
    obtain ⟨x,hx⟩ : ∃ x,ns[i]? = some x:=⟨ns[i]'hi,by simp⟩
    have hxat : atI (ns.map V.int) (0 + (i : Int)) = some (.int x):=by rw [Int.zero_add]; exact zaD (by rw [List.getElem?_map,hx]; rfl)
    have em : ((m + 1 : Nat) : Int) - 1 = (m : Int):=by omega
    have ec : (0 + (i : Int)) + 1 = ((i + 1 : Nat) : Int):=by omega
    have hSa:=s1.seq hS
    refine ⟨_,rfl,.inl ⟨rfl,_,SqL.of h1D⟩,_,rfl,_,rfl,_,_,rfl,rfl,_,rfl,a,_,rfl,hSa,fun z hz => ?_⟩
    rw [ec,zjv,← List.map_drop]
    have v1:=ze (o:=.lst ((ns.drop (i + 1)).map V.int)) hz
    refine ⟨_,rfl,_,_,rfl,rfl,z,ns.drop (i + 1),by show [V.ref z,V.int (((m + 1 : Nat) : Int) - 1)] = _; rw [em],SqL.of zb,by rw [List.length_drop]; omega,by omega,fun l ls' cs' H3 hl s3 h3l hI' hlen' hmem' => ?_⟩
    have s13:=v1.trans s3
    have h3D:=s13 _ _ h1D
    have hil':=hI'.length
    rw [List.length_drop] at hlen'
    have hpow : 2 ^ (ns.length - i) = 2 * 2 ^ (ns.length - (i + 1)):=by
     have : ns.length - i = ns.length - (i + 1) + 1:=by omega
     rw [this,Nat.pow_succ]
     omega
    refine ⟨l,rfl,⟨_,SqL.of h3l⟩,zU (n:=ls'.length) (fun j ys H' => zy H3 H' ∧ ∃ us : List Addr,ys = us.map V.ref ∧ zie (hide H' D) us ((cs'.take j).map (x :: ·))) ⟨fun _ _ e => e,[],rfl,.nil⟩ ?_ ?_ ?_ ?_⟩
    ·rintro j ys H4 hj ⟨s4,_⟩
     exact ⟨_,.ref ls'[j],SqL.of (s4 _ _ h3l),by rw [List.getElem?_map,List.getElem?_eq_getElem hj]; rfl⟩
    ·rintro ys H4 ⟨s4,_⟩
     exact ⟨_,SqL.of (s4 _ _ h3l),by rw [List.length_map]; exact Nat.le_refl _⟩
    ·rintro j y ys H4 H5 hj ⟨s4,us,rfl,hus⟩ ⟨rfl,hy⟩
     obtain ⟨lo,rfl,hlo⟩:=zaj (hy _ (SqL.of (s4 _ _ h3l)))
     obtain ⟨c',hc',hlc⟩:=Paired.get hI' hlo
     have hcm:=(hmem' c').mp (List.mem_of_getElem? hc')
     have hul:=hus.length
     rw [List.length_map,List.length_take] at hul
     refine gY ⟨_,rfl,_,rfl,a,_,_,.int x,rfl,rfl,(s13.trans s4).seq hSa,hxat,by show 1 ≤ sizeLine; omega,fun b hb => ?_⟩
     have v5:=ze (o:=.lst [.int x]) hb
     refine ⟨_,rfl,b,lo,[.int x],c'.map V.int,rfl,rfl,zb,v5 _ _ (s4 _ _ hlc),by rw [List.length_map,hcm.2]; show 1 + m ≤ sizeLine; omega,fun l2 hl2 => ⟨by rw [List.length_map]; omega,s4.trans (v5.trans (ze hl2)),us ++ [l2],by rw [List.map_append]; rfl,?_⟩⟩
     rw [take_snoc hc',List.map_append]
     have hl2D : l2 ≠ D:=fun e => by
      rw [e,v5 _ _ (s4 _ _ h3D)] at hl2
      cases hl2
     refine Paired.snoc (hus.same (zaK (v5.trans (ze hl2)))) (zaE ?_ hl2D)
     rw [zb]
     rfl
    ·rintro ys H4 Dc ⟨s4,us,rfl,hus⟩ hDc
     rw [hil',List.take_length] at hus
     have hul:=hus.length
     rw [List.length_map] at hul
     have v6:=ze (o:=.lst (us.map V.ref)) hDc
     have h4D:=s4 _ _ h3D
     have hDD : D ≠ Dc:=zu h4D hDc
     refine ⟨D,Dc,ls.map V.ref,us.map V.ref,rfl,rfl,v6 _ _ h4D,zb,by rw [List.length_map,List.length_map]; omega,?_⟩
     refine ⟨_,ls ++ us,cs ++ cs'.map (x :: ·),rfl,?_,?_,?_,?_,fun c => ?_⟩
     ·exact zY (s1.trans (s13.trans (s4.trans v6))) hD
     ·rw [zb,List.map_append]
     ·rw [zdD]
      have t1 : zy (hide H1 D) (hide (upd H4 Dc (.lst (us.map V.ref))) D):=zaK (s13.trans (s4.trans v6))
      have t2 : zy (hide H4 D) (hide (upd H4 Dc (.lst (us.map V.ref))) D):=zaK v6
      exact zbr (hI.same t1) (hus.same t2)
     ·rw [List.length_append,List.length_map]
      omega
     ·rw [List.mem_append,hmem c,List.mem_map]
      constructor
      ·rintro (⟨j,x',c',h1,h2,h3,h4,h5⟩ | ⟨c',h1,rfl⟩)
       ·exact ⟨j,x',c',by omega,h2,h3,h4,h5⟩
       ·obtain ⟨h2,h3⟩:=(hmem' c').mp h1
        exact ⟨i,x,c',by omega,hx,rfl,h2,h3⟩
      ·rintro ⟨j,x',c',h1,h2,h3,h4,h5⟩
       by_cases hj : j < i
       ·exact .inl ⟨j,x',c',hj,h2,h3,h4,h5⟩
       ·have : j = i:=by omega
        subst this
        rw [hx] at h2
        cases h2
        exact .inr ⟨c',(hmem' c').mpr ⟨h4,h5⟩,h3.symm⟩
   ·rintro σ H1 ⟨e3,ls,cs,rfl,s1,h1D,hI,hlen,hmem⟩
    refine ⟨_,rfl,q D ls cs H1 hD s1 h1D (hI.same (zbV H1 D)) (Nat.le_trans (Nat.le_add_right _ _) hlen) fun c => ?_⟩
    rw [hmem c,zif]
end
end My
end
section
set_option maxHeartbeats 3999000
namespace My
open PySem L2 PyProof.Rows
section
variable {P : Program} {w : World} {K : PySem.W.Frag} {mg : Str → Option Value} {base : Heap} {t : Adr}
theorem zbz : FnScope ["p","k","found","step","longer","one"] ["p","k"] (zi zcF):=⟨rfl,rfl,rfl,by decide +kernel,rfl,by decide +kernel,by decide +kernel⟩
theorem zjw {fd : FuncData} (T : Txt K mg t) (F : Fun K "_law_all" "_law_all" zcF t.l_all fd) : FnOk P w K mg base CX0 1 t.l_all fd ["p","k"] (zju K):=by
 refine F.ok zbz (fun vs H Q E h => ?_) (fun cdv A outer s H vs Q E hr h => ?_)
 ·obtain ⟨p,k,rfl,_⟩:=h
  rfl
 ·obtain ⟨p,k,rfl,p0,p1,hk,q⟩:=h
  refine ⟨_,(@zf _ _ _ _ _ (@zn _ _ (2) _ _ _ _ zbz.nd rfl (Or.inl rfl) (@zL _ _ _ _ (@za _ _ _ _ _ (@za5 _ _ _ _ _ (@zg _)) (@zg _) (by rfl))) (by rfl) (by trivial)) (by exact (@zf _ _ _ _ _ (@zaG _ _ _ _ _ _ _ _ PassesOwn.never rfl (@zaa _ _ _ _ _ _ rfl T.range_ (@za _ _ _ _ _ (@pvx _ 1 _ _ rfl) (@zg _) (by rfl)) (by rfl)) (@zj _ _ (3) _ zbz.nd rfl (Or.inl rfl) (by trivial)) (@zf _ _ _ _ _ (@zn _ _ (4) _ _ _ _ zbz.nd rfl (Or.inl rfl) (@zL _ _ _ _ (@zg _)) (by rfl) (by trivial)) (by exact (@zf _ _ _ _ _ (@zaG _ _ _ _ _ _ _ _ PassesOwn.never rfl (@zac _ _ _ _ (@pvx _ 2 _ _ rfl)) (@zj _ _ (5) _ zbz.nd rfl (Or.inr rfl) (by trivial)) (@zm _ _ _ (@zbZ _ _ _ _ (@zcu _ _ _ _ _ _ _ _ _ _ _ _ PySem.F.plainAttrs_list PySem.F.slot_list_extend PySem.F.type_list_extend (@zef _) (@pvx _ 4 _ _ rfl) (@za _ _ _ _ _ (@zai _ _ _ _ _ _ _ _ _ _ _ _ _ (CompSc.of (N':=["number","one"]) (ix:=[none,some 5]) (zi zcF) ["p","k","found","step","longer","one"] rfl rfl (by decide +kernel)) rfl (@zam _ _ rfl) (@zaa _ _ _ _ _ _ rfl T.range_ (@za _ _ _ _ _ (@pvx _ 0 _ _ rfl) (@zg _) (by rfl)) (by rfl)) (fun _ _ _ _ => (@zj _ _ (0) _ (show (["number","one"] : List Str).Nodup by decide +kernel) rfl (Or.inl rfl) (by trivial))) (fun _ _ _ _ => (@z8 _)) (fun _ _ _ _ => (@zl _ _ _ _ _ _ _ _ (zh9 (K:=K) rfl) (@pvx _ 1 _ _ rfl) (@za5 _ _ _ _ _ (@za _ _ _ _ _ (@pvx _ 0 _ _ rfl) (@zg _) (by rfl))))) (by intro _; rfl)) (@zg _) (by rfl)) (by rfl) (by rfl) (by rfl) (by rfl) (by rfl)) (by rfl))) (by intro _; rfl)) (by exact (@zm _ _ _ (@zn _ _ (2) _ _ _ _ zbz.nd rfl (Or.inl rfl) (@pvx _ 4 _ _ rfl) (by rfl) (by trivial))))))) (by intro _; rfl)) (by exact (@zm _ _ _ (@zG _ _ _ _ (@pvx _ 2 _ _ rfl))))))),?_⟩
  have hsl:=sizeLine_eq
  refine ⟨Nat.zero_le _,fun E0 hE0 => ⟨by show 1 ≤ sizeLine; omega,fun c hc => ?_⟩⟩
  have u0:=ze (o:=.tup []) hE0
  have u1:=ze (o:=.lst [.ref E0]) hc
  refine ⟨_,rfl,_,rfl,by omega,by omega,?_⟩
  rw [Int.toNat_natCast]
  refine zaS (lo:=0) (n:=k) (fun i σ H' => ∃ (f : Addr) (rs : List Addr) (qs : List (List Int)) (e3 e4 e5 : Option V),σ = [some (.int p),some (.int k),some (.ref f),e3,e4,e5] ∧ H f = none ∧ zy H H' ∧ H' f = some (.lst (rs.map V.ref)) ∧ zaM H' rs qs ∧ qs.length ≤ 97 ^ i ∧ ∀ x,x ∈ qs ↔ IsP p i x)
   ⟨c,[E0],[[]],none,none,none,rfl,u0.free hc,u0.trans u1,zb,.cons (u1 _ _ zb) .nil,Nat.le_refl _,fun x => ?_⟩ ?_ ?_
  ·rw [List.mem_singleton]
   exact ⟨fun e => by subst e; exact ⟨rfl,by simp⟩,fun e => List.length_eq_zero_iff.mp e.1⟩
  ·rintro i σ H1 hi ⟨f,rs,qs,e3,e4,e5,rfl,hf,s1,h1f,hT,hql,hmem⟩
   have hrl:=hT.length
   have h97 : 97 ^ i ≤ 97 ^ 1:=Nat.pow_le_pow_right (by decide) (by omega)
   have h97' : 97 ^ (i + 1) = 97 ^ i * 97:=Nat.pow_succ ..
   refine ⟨Nat.zero_le _,fun D hD => ?_⟩
   have s0:=ze (o:=.lst []) hD
   have hfD : f ≠ D:=zu h1f hD
   refine ⟨_,rfl,f,rfl,⟨_,SqL.of (s0 _ _ h1f)⟩,zbb (K:=K) (a:=f) (xs:=rs.map V.ref) (fun j σ H' => ∃ (us : List Addr) (e3 e5 : Option V),σ = [some (.int p),some (.int k),some (.ref f),e3,some (.ref D),e5] ∧ zy H1 H' ∧ H' D = some (.lst (us.map V.ref)) ∧ zaM (hide H' D) us ((qs.take j).flatMap (zcX p)))
    ⟨[],_,_,rfl,s0,zb,.nil⟩ (fun j σ H' _ ⟨_,_,_,_,s3,_⟩ => SqL.of (s3 _ _ h1f)) ?_ ?_⟩
   ·rintro j y σ H2 hy ⟨us,e3,e5,rfl,s2,h2D,hus⟩
    obtain ⟨ob,rfl,hob⟩:=zaj hy
    obtain ⟨qq,hqq,hat⟩:=Paired.get hT hob
    have hul:=hus.length
    rw [zcJ,List.length_take] at hul
    have hjl : j < qs.length:=(List.getElem?_eq_some_iff.mp hqq).1
    have hqi : qq.length = i:=((hmem qq).mp (List.mem_of_getElem? hqq)).1
    have hfp:=zcJ (p:=p) qs
    have hsm : ((qs.take j).length) * p.toNat ≤ 97 * 97:=Nat.mul_le_mul (by rw [List.length_take]; omega) (by omega)
    rw [List.length_take] at hsm
    refine ⟨_,rfl,.inl ⟨rfl,_,SqL.of h2D⟩,_,rfl,p,rfl,by omega,by omega,zU (n:=p.toNat) (fun m ys H' => zy H2 H' ∧ ∃ vs : List Addr,ys = vs.map V.ref ∧ zaM (hide H' D) vs ((List.range m).map fun n : Nat => qq ++ [(n : Int)])) ⟨fun _ _ e => e,[],rfl,.nil⟩ (fun m ys H' hm _ => hm) (fun ys H' _ => Nat.le_refl _) ?_ ?_⟩
    ·rintro m y ys H4 H5 hm ⟨s4,vs,rfl,hvs⟩ ⟨rfl,rfl⟩
     have hvl:=hvs.length
     rw [List.length_map,List.length_range] at hvl
     have h4D:=s4 _ _ h2D
     have hfit : (vs.map V.ref).length < sizeLine:=by rw [List.length_map]; omega
     have hob4:=(s2.trans s4) _ _ hat
     have z0 : (0 : Int) + (m : Int) = (m : Int):=by omega
     refine gY ⟨_,rfl,_,rfl,by show 1 ≤ sizeLine; omega,fun tb htb => ?_⟩
     have v5:=ze (o:=.tup [.int (0 + (m : Int))]) htb
     have htD : tb ≠ D:=fun e => by rw [e,h4D] at htb; cases htb
     refine ⟨ob,tb,qq.map V.int,[.int (0 + (m : Int))],rfl,rfl,SqT.of (v5 _ _ hob4),SqT.of zb,by simp,by rw [List.length_map]; show qq.length + 1 ≤ sizeLine; omega,fun hx => ?_,fun hx r hr' => ?_⟩
     ·refine ⟨hfit,s4.trans v5,vs ++ [tb],by rw [List.map_append]; rfl,?_⟩
      rw [List.range_succ,List.map_append]
      refine Paired.snoc (hvs.same (zaK v5)) (zaE ?_ htD)
      rw [zb,List.map_append,hx,z0]
      rfl
     ·have v6:=ze (o:=.tup (qq.map V.int ++ [.int (0 + (m : Int))])) hr'
      have hrD : r ≠ D:=fun e => by rw [e,v5 _ _ h4D] at hr'; cases hr'
      refine ⟨hfit,s4.trans (v5.trans v6),vs ++ [r],by rw [List.map_append]; rfl,?_⟩
      rw [List.range_succ,List.map_append]
      refine Paired.snoc (hvs.same (zaK (v5.trans v6))) (zaE ?_ hrD)
      rw [zb,List.map_append,z0]
      rfl
    ·rintro ys H4 Dc ⟨s4,vs,rfl,hvs⟩ hDc
     have v6:=ze (o:=.lst (vs.map V.ref)) hDc
     have h4D:=s4 _ _ h2D
     have hvl:=hvs.length
     rw [List.length_map,List.length_range] at hvl
     refine ⟨D,Dc,us.map V.ref,vs.map V.ref,rfl,rfl,v6 _ _ h4D,zb,by rw [List.length_map,List.length_map]; omega,?_⟩
     refine ⟨us ++ vs,_,_,rfl,zY (s2.trans (s4.trans v6)) hD,by rw [zb,List.map_append],?_⟩
     rw [zdD,zey hqq]
     exact zbr (hus.same (zaK (s4.trans v6))) (hvs.same (zaK v6))
   ·rintro σ H2 ⟨us,e3,e5,rfl,s2,h2D,hus⟩
    rw [List.length_map,hrl,List.take_length] at hus
    refine ⟨_,rfl,D,us,_,_,_,_,rfl,s1.free hD,s1.trans s2,h2D,hus.same (zbV H2 D),?_,zjt hmem⟩
    rw [zcJ,h97']
    exact Nat.mul_le_mul hql (by omega)
  ·rintro σ H1 ⟨f,rs,qs,e3,e4,e5,rfl,hf,s1,h1f,hT,hql,hmem⟩
   have h97 : 97 ^ k ≤ 97 ^ 2:=Nat.pow_le_pow_right (by decide) hk
   exact ⟨_,rfl,q f rs qs H1 hf s1 h1f hT (by omega) hmem⟩
end
end My
end
section
set_option maxHeartbeats 3999000
namespace My
open PySem L2 PyProof.Rows
theorem zjx {X : Cx} {st : Stmt} {ts : TS} (h : PS X st ts) : PS X st (fun D σ H => ∃ Pv : L2.St → Hp → Prop,ts { D with nx:=Pv } σ H ∧ ∀ σ' H',Pv σ' H' → D.nx σ' H'):=by
 intro pins s σ H D I hq
 obtain ⟨Pv,h1,h2⟩:=hq
 refine thn (h pins s σ H _ I h1) fun f s1 q => ?_
 cases f with
 | next =>
  obtain ⟨σ',H',I',p⟩:=q
  exact ⟨σ',H',I',h2 _ _ p⟩
 | ret v => exact q
 | brk => exact q
 | cont => exact q
theorem zaM.zs {H : Hp} : ∀ {us : List Addr} {qs : List (List Int)},zaM H us qs → ∃ ps : List (Addr × List Int),us = ps.map (·.1) ∧ qs = ps.map (·.2) ∧ ∀ q ∈ ps,H q.1 = some (.tup (q.2.map V.int))
 | _,_,.nil => ⟨[],rfl,rfl,by simp⟩
 | _,_,.cons (a:=b) (b:=q) r t => by
  obtain ⟨zs,h1,h2,h3⟩:=zaM.zs t
  refine ⟨(b,q) :: zs,by rw [h1]; rfl,by rw [h2]; rfl,fun z hz => ?_⟩
  rcases (List.mem_cons.mp hz) with rfl | hz
  ·exact r
  ·exact h3 z hz
theorem zjy {H : Hp} {a : Addr} {o : HO} : zy (hide H a) (upd H a o):=fun b u e => by
 unfold hide at e
 by_cases hb : b = a
 ·rw [if_pos hb] at e; cases e
 ·rw [if_neg hb] at e
  rw [zp hb]
  exact e
theorem PtB.pts {K : PySem.W.Frag} {H : Hp} {a : Addr} {bs : List Addr} {pts : List (Int × Int)} (ha : H a = some (.lst (bs.map V.ref))) (h : PtB H bs pts) : ziK K H a pts:=by
 refine ⟨bs,SqL.of ha,h.length,fun i b q h1 h2 => ?_⟩
 obtain ⟨q',h3,h4⟩:=Paired.get h h1
 rw [h2] at h3
 cases h3
 exact h4
def ze8 (pl : List Int) (rw : List (Option Int)) (j : Int) : Int × Int:=(pl[j.toNat]?.getD 0,(rw[j.toNat]?.getD none).getD 0)
theorem zf6 {pl : List Int} {rw : List (Option Int)} (hl : rw.length = pl.length) : ∀ n,n ≤ pl.length → hps (pl.take n) (rw.take n) = (zad rw n).map (ze8 pl rw)
 | 0,_ => by simp [zad,hps]
 | n + 1,hn => by
  have ih:=zf6 hl n (by omega)
  have e1 : pl[n]? = some pl[n]:=List.getElem?_eq_getElem (by omega)
  have e2 : rw[n]? = some rw[n]:=List.getElem?_eq_getElem (by omega)
  rw [zcI e1 e2,ih,zcl,List.map_append]
  congr 1
  rw [e2,Option.getD_some]
  cases ho : rw[n] with
  | none => rfl
  | some y =>
   show [(pl[n],y)] = [ze8 pl rw ((n : Nat) : Int)]
   unfold ze8
   rw [Int.toNat_natCast,e1,e2,ho]
   rfl
theorem zhj {pl : List Int} {rw : List (Option Int)} (hl : rw.length = pl.length) : hps pl rw = (zad rw rw.length).map (ze8 pl rw):=by
 have:=zf6 hl pl.length (Nat.le_refl _)
 rw [List.take_length,List.take_of_length_le (by omega)] at this
 rw [hl]
 exact this
theorem zjz {rw : List (Option Int)} {n : Nat} {z : Int} (h : z ∈ zad rw n) : ∃ (j : Nat) (y : Int),z = j ∧ j < n ∧ rw[j]? = some (some y):=by
 unfold zad at h
 obtain ⟨j,hj,rfl⟩:=List.mem_map.mp h
 obtain ⟨h1,h2⟩:=List.mem_filter.mp hj
 refine ⟨j,?_⟩
 cases e : rw[j]? with
 | none => rw [e] at h2; simp at h2
 | some o =>
  cases o with
  | none => rw [e] at h2; simp at h2
  | some y => exact ⟨y,rfl,List.mem_range.mp h1,rfl⟩
theorem zf7 {p : Int} (hp : p ∈ zw) {pl : List Int} {rw : List (Option Int)} (hl : rw.length = pl.length) (hP : Pts p (hps pl rw)) {q : List Int} {k t : Nat} (hq : IsP p k q) (hk : k ≤ t) (ht : t ≤ hits p q (hps pl rw)) :
  ∃ c : List Int,c.Sublist (zad rw rw.length) ∧ c.length = k ∧ q = thr p (c.map (ze8 pl rw)):=by
 obtain ⟨pk,h1,h2⟩:=zdQ hp hP (n:=(hps pl rw).length) hq hk (by omega) ht
 rw [List.take_length] at h1
 obtain ⟨h3,h4⟩:=zca.mp h1
 rw [zhj hl] at h3
 obtain ⟨c,h5,rfl⟩:=List.sublist_map_iff.mp h3
 exact ⟨c,h5,by simpa using h4,h2⟩
theorem zdT {p : Int} {pl : List Int} {rw : List (Option Int)} (hl : rw.length = pl.length) (hP : Pts p (hps pl rw)) {c : List Int} (h : c.Sublist (zad rw rw.length)) : Pts p (c.map (ze8 pl rw)):=by
 refine hP.sub ?_
 rw [zhj hl]
 exact h.map _
end My
end
section
set_option maxHeartbeats 3999000
namespace My
open PySem L2 PyProof.Rows
section
variable {P : Program} {w : World} {K : PySem.W.Frag} {mg : Str → Option Value} {base : Heap} {t : Adr}
def zgF (K : PySem.W.Frag) : Sp:=fun vs H Q _ => ∃ (c tt r : Addr) (p : Int) (k : Nat) (T : Int) (pl : List Int) (rw : List (Option Int)),vs = [.ref c,.ref r,.int T] ∧ zbd H c tt p k pl ∧ H r = some (.lst (rw.map enc)) ∧ rw.length = pl.length ∧ pl.length ≤ 16 ∧ p ∈ zw ∧ pl.Nodup ∧ (∀ x ∈ pl,0 ≤ x ∧ x < p) ∧ (∀ z,some z ∈ rw → 0 ≤ z ∧ z < p) ∧ 1 ≤ k ∧ k ≤ 5 ∧ (k : Int) ≤ T ∧
 ∀ (l : Addr) (rs : List Addr) (qs : List (List Int)) (H' : Hp),H l = none → zy H H' → H' l = some (.lst (rs.map V.ref)) → zaM H' rs qs → qs.length ≤ 65536 → zcP p k qs → (∀ q,q ∈ qs ↔ IsP p k q ∧ T ≤ (hits p q (hps pl rw) : Int)) → Q (.ref l) H'
def ze9 (K : PySem.W.Frag) : Sp:=fun vs H Q E => ∃ m,m ≤ 5 ∧ zjr K (m + 1) vs H Q E
theorem zfa {fd : FuncData} (T : Txt K mg t) (F : Fun K "_law_choices" "_law_choices" zaL t.l_choices fd) : FnOk P w K mg base CX0 7 t.l_choices fd ["some","many"] (ze9 K) :=
 ⟨fun vs H Q E ⟨m,_,h⟩ => (zci (P:=P) (w:=w) (base:=base) (m + 1) T F).len vs H Q E h,fun A outer s H args us vs Q E hr he hb hv ⟨m,hm,h⟩ => (zci (P:=P) (w:=w) (base:=base) (m + 1) T F).run A outer s H args us vs Q E (hr.mono (by omega)) he hb hv h⟩
theorem zao : FnScope ["code","row","t","p","k","places","some","ones","choice","known","one"] ["code","row","t"] (zi za4):=⟨rfl,rfl,rfl,by decide +kernel,rfl,by decide +kernel,by decide +kernel⟩
theorem zih {fd : FuncData} (T : Txt K mg t) (F : Fun K "_law_near" "_law_near" za4 t.l_near fd) : FnOk P w K mg base CX0 8 t.l_near fd ["code","row","t"] (zgF K):=by
 obtain ⟨fd_l_all,F_l_all,b_l_all⟩:=T.f_l_all
 have G_l_all:=zjw (P:=P) (w:=w) (base:=base) T F_l_all
 obtain ⟨fd_l_choices,F_l_choices,b_l_choices⟩:=T.f_l_choices
 have G_l_choices:=zfa (P:=P) (w:=w) (base:=base) T F_l_choices
 obtain ⟨fd_l_through,F_l_through,b_l_through⟩:=T.f_l_through
 have G_l_through:=ze5 (P:=P) (w:=w) (base:=base) T F_l_through
 obtain ⟨fd_l_fits,F_l_fits,b_l_fits⟩:=T.f_l_fits
 have G_l_fits:=zeB (P:=P) (w:=w) (base:=base) T F_l_fits
 refine F.ok zao (fun vs H Q E h => ?_) (fun cdv A outer s H vs Q E hr h => ?_)
 ·obtain ⟨c,tt,r,p,k,T',pl,rw,rfl,_⟩:=h
  rfl
 ·obtain ⟨c,tt,r,p,k,T',pl,rw,rfl,hc,hra,hrl,hn,hp,hnd,hpl,hrw,k0,k1,hkT,q⟩:=h
  have hu : (A.deeper (envOfC (Str.ofString "_law_near") (zi za4) s.heap.objs.size t.l_near cdv)).units + 1 < cLine:=by have:=hr.units; omega
  refine ⟨_,(@zf _ _ _ _ _ (@zcj _ _ _ _ _ _ (@pvx _ 0 _ _ rfl) (@zbA _ _ _ _ _ _ rfl (@zq _ _ _ _ _ (@zj _ _ (3) _ zao.nd rfl (Or.inl rfl) (by trivial)) (@zq _ _ _ _ _ (@zj _ _ (4) _ zao.nd rfl (Or.inl rfl) (by trivial)) (@zq _ _ _ _ _ (@zj _ _ (5) _ zao.nd rfl (Or.inr rfl) (by trivial)) (@z9 _) (by rfl)) (by rfl)) (by rfl)) (by rfl) (by rfl)) (by rfl) (by rfl) (by rfl)) (by exact (@zf _ _ _ _ _ (@zav _ _ _ _ _ _ _ _ _ _ _ _ _ (6) _ _ _ zao.nd rfl (Or.inl rfl) (CompSc.of (N':=["number","row"]) (ix:=[none,some 1]) (zi za4) ["code","row","t","p","k","places","some","ones","choice","known","one"] rfl rfl (by decide +kernel)) rfl (@zam _ _ rfl) (@zaa _ _ _ _ _ _ rfl T.range_ (@za _ _ _ _ _ (@zr _ _ _ _ _ _ _ _ _ (@zB _) (by rfl) T.len_ boot_len (@za _ _ _ _ _ (@pvx _ 1 _ _ rfl) (@zg _) (by rfl)) (by decide) (by decide) (by rfl) (by rfl)) (@zg _) (by rfl)) (by rfl)) (fun _ _ _ _ => (@zj _ _ (0) _ (show (["number","row"] : List Str).Nodup by decide +kernel) rfl (Or.inl rfl) (by trivial))) (fun _ _ _ _ => (@zaB _ _ _ (@zD _ _ _ _ _ _ _ _ (@zc8 _) (@zE _ _ _ _ _ _ _ (@zbc _ (K) rfl) (@pvx _ 1 _ _ rfl) (@pvx _ 0 _ _ rfl) (fun _ _ => rfl)) (@zbO _ _ _) (zN _)))) (fun _ _ _ _ => (@pvx _ 0 _ _ rfl)) (by rfl) (by intro _; rfl) (by trivial)) (by exact (@zf _ _ _ _ _ (@zjx _ _ _ (@za7 _ _ _ _ _ _ _ _ (@PW.pt _ _ _ (@zik _ _ _ _ _ _ _ (@zD _ _ _ _ _ _ _ _ (@zff _) (@pvx _ 4 _ _ rfl) (@zh _ _ _ _) (zN _)) (@zgG _ _ _ _ (@zD _ _ _ _ _ _ _ _ (@zff _) (@pvx _ 3 _ _ rfl) (@zh _ _ _ _) (zN _))))) (@zm _ _ _ (@zn _ _ (7) _ _ _ _ zao.nd rfl (Or.inl rfl) (@zz _ _ _ _ _ _ _ _ _ _ _ _ _ _ _ _ G_l_all (hr.mono (by decide)) rfl T.m_l_all F_l_all.kp b_l_all .nil (@zW _) (@za _ _ _ _ _ (@pvx _ 3 _ _ rfl) (@za _ _ _ _ _ (@pvx _ 4 _ _ rfl) (@zg _) (by rfl)) (by rfl)) (by decide) (by rfl) (by rfl)) (by rfl) (by trivial))) (@zf _ _ _ _ _ (@zn _ _ (7) _ _ _ _ zao.nd rfl (Or.inl rfl) (@zL _ _ _ _ (@zg _)) (by rfl) (by trivial)) (by exact (@zm _ _ _ (@zaG _ _ _ _ _ _ _ _ PassesOwn.never rfl (@zac _ _ _ _ (@zz _ _ _ _ _ _ _ _ _ _ _ _ _ _ _ _ G_l_choices (hr.mono (by decide)) rfl T.m_l_choices F_l_choices.kp b_l_choices .nil (@zW _) (@za _ _ _ _ _ (@pvx _ 6 _ _ rfl) (@za _ _ _ _ _ (@pvx _ 4 _ _ rfl) (@zg _) (by rfl)) (by rfl)) (by decide) (by rfl) (by rfl))) (@zj _ _ (8) _ zao.nd rfl (Or.inl rfl) (by trivial)) (@zm _ _ _ (@zbZ _ _ _ _ (@zcu _ _ _ _ _ _ _ _ _ _ _ _ PySem.F.plainAttrs_list PySem.F.slot_list_append PySem.F.type_list_append (@zb0 _) (@pvx _ 7 _ _ rfl) (@za _ _ _ _ _ (@zz _ _ _ _ _ _ _ _ _ _ _ _ _ _ _ _ G_l_through (hr.mono (by decide)) rfl T.m_l_through F_l_through.kp b_l_through .nil (@zW _) (@za _ _ _ _ _ (@pvx _ 3 _ _ rfl) (@za _ _ _ _ _ (@zai _ _ _ _ _ _ _ _ _ _ _ _ _ (CompSc.of (N':=["number","places","row"]) (ix:=[none,some 5,some 1]) (zi za4) ["code","row","t","p","k","places","some","ones","choice","known","one"] rfl rfl (by decide +kernel)) rfl (@zam _ _ rfl) (@zac _ _ _ _ (@pvx _ 8 _ _ rfl)) (fun _ _ _ _ => (@zj _ _ (0) _ (show (["number","places","row"] : List Str).Nodup by decide +kernel) rfl (Or.inl rfl) (by trivial))) (fun _ _ _ _ => (@z8 _)) (fun _ _ _ _ => (@za5 _ _ _ _ _ (@za _ _ _ _ _ (@zE _ _ _ _ _ _ _ (@zeL _ (K) rfl) (@pvx _ 1 _ _ rfl) (@pvx _ 0 _ _ rfl) (fun _ _ => rfl)) (@za _ _ _ _ _ (@zE _ _ _ _ _ _ _ (@zbc _ (K) rfl) (@pvx _ 2 _ _ rfl) (@pvx _ 0 _ _ rfl) (fun _ _ => rfl)) (@zg _) (by rfl)) (by rfl)))) (by intro _; rfl)) (@zg _) (by rfl)) (by rfl)) (by decide) (by rfl) (by rfl)) (@zg _) (by rfl)) (by rfl) (by rfl) (by rfl) (by rfl) (by rfl)) (by rfl))) (by intro _; rfl))))))) (by exact (@zf _ _ _ _ _ (@zn _ _ (9) _ _ _ _ zao.nd rfl (Or.inl rfl) (@zfH _ _) (by rfl) (by trivial)) (by exact (@zf _ _ _ _ _ (@zaG _ _ _ _ _ _ _ _ PassesOwn.never rfl (@zac _ _ _ _ (@pvx _ 7 _ _ rfl)) (@zj _ _ (10) _ zao.nd rfl (Or.inl rfl) (by trivial)) (@zm _ _ _ (@zgX _ _ _ _ _ _ _ _ _ hu (@pvx _ 9 _ _ rfl) (@pvx _ 10 _ _ rfl) (@zcr _ _ _ _) rfl)) (by intro _; rfl)) (by exact (@zm _ _ _ (@zG _ _ _ _ (@zr _ _ _ _ _ _ _ _ _ (@ze2 _) (by rfl) T.sorted_ boot_sorted (@za _ _ _ _ _ (@zai _ _ _ _ _ _ _ _ _ _ _ _ _ (CompSc.of (N':=["one","code","row","t"]) (ix:=[none,some 0,some 1,some 2]) (zi za4) ["code","row","t","p","k","places","some","ones","choice","known","one"] rfl rfl (by decide +kernel)) rfl (@zam _ _ rfl) (zl4 (@pvx _ 9 _ _ rfl)) (fun _ _ _ _ => (@zj _ _ (0) _ (show (["one","code","row","t"] : List Str).Nodup by decide +kernel) rfl (Or.inl rfl) (by trivial))) (fun _ _ _ _ => (@zaB _ _ _ (@zD _ _ _ _ _ _ _ _ (@zkp _) (@zr _ _ _ _ _ _ _ _ _ (@zan _ (K) rfl) (by rfl) T.len_ boot_len (@za _ _ _ _ _ (@zz _ _ _ _ _ _ _ _ _ _ _ _ _ _ _ _ G_l_fits (hr.mono (by decide)) rfl T.m_l_fits F_l_fits.kp b_l_fits .nil (@zW _) (@za _ _ _ _ _ (@pvx _ 1 _ _ rfl) (@za _ _ _ _ _ (@pvx _ 2 _ _ rfl) (@za _ _ _ _ _ (@pvx _ 0 _ _ rfl) (@zg _) (by rfl)) (by rfl)) (by rfl)) (by decide) (by rfl) (by rfl)) (@zg _) (by rfl)) (by decide) (by decide) (by rfl) (by rfl)) (@pvx _ 3 _ _ rfl) (zN _)))) (fun _ _ _ _ => (@pvx _ 0 _ _ rfl)) (by intro _; rfl)) (@zg _) (by rfl)) (by decide) (by decide) (by rfl) (by rfl)))))))))))))),?_⟩
  have hsl:=sizeLine_eq
  have rp:=zM hp
  have hP:=zhf hnd hpl hrw
  refine ⟨_,rfl,c,_,rfl,SqT.of hc.1,rfl,_,_,rfl,_,_,rfl,_,_,rfl,rfl,?_⟩
  refine ⟨_,rfl,r,_,rfl,.inl (SqL.of hra),_,rfl,by rw [List.length_map]; omega,by rw [List.length_map]; omega,?_⟩
  rw [List.length_map,Int.toNat_natCast]
  refine zU (n:=rw.length) (fun i ys H' => ys = (zad rw i).map V.int ∧ H' = H) ⟨rfl,rfl⟩ (fun i ys H' hi _ => hi) (fun ys H' _ => Nat.le_refl _) ?_ ?_
  ·rintro i xx ys H4 H5 hi ⟨rfl,rfl⟩ ⟨rfl,rfl⟩
   obtain ⟨o,ho⟩ : ∃ o,rw[i]? = some o:=⟨rw[i]'(by omega),by simp⟩
   have hat : atI (rw.map enc) (0 + (i : Int)) = some (enc o):=by
    rw [Int.zero_add]
    exact zaD (by rw [List.getElem?_map,ho]; rfl)
   refine ⟨_,rfl,_,rfl,r,_,_,_,rfl,rfl,SqL.of hra,hat,rfl,_,rfl,?_⟩
   have hl:=za8 rw i
   rw [zcl,ho,List.map_append]
   refine zaQ (fun h1 => ⟨_,rfl,zP (by rw [List.length_map]; omega),?_,rfl⟩) (fun h1 => ⟨?_,rfl⟩)
   ·cases o with
    | none => exact absurd h1 (by simp [enc])
    | some z => rw [Int.zero_add]; rfl
   ·cases o with
    | none => simp
    | some z => exact absurd (by simp [enc]) h1
  rintro ys H4 D ⟨rfl,rfl⟩ hD
  have sD:=ze (o:=.lst ((zad rw rw.length).map V.int)) hD
  have hDD : upd H4 D (.lst ((zad rw rw.length).map V.int)) D = some (.lst ((zad rw rw.length).map V.int)):=zb
  generalize upd H4 D (.lst ((zad rw rw.length).map V.int)) = H5 at sD hDD ⊢
  have hsl':=za8 rw rw.length
  have hc5:=hc.same sD
  have hr5:=sD _ _ hra
  refine ⟨fun σ H' => ∃ (o : Addr) (rs : List Addr) (qs : List (List Int)) (e8 : Option V),σ = [some (.ref c),some (.ref r),some (.int T'),some (.int p),some (.int k),some (.ref tt),some (.ref D),some (.ref o),e8,none,none] ∧ zy H5 H' ∧ H' o = some (.lst (rs.map V.ref)) ∧ zaM H' rs qs ∧ qs.length ≤ 65536 ∧ (∀ x ∈ qs,IsP p k x) ∧ ∀ x,IsP p k x → T' ≤ (hits p x (hps pl rw) : Int) → x ∈ qs,?_,?_⟩
  ·refine ⟨_,rfl,_,_,rfl,rfl,_,rfl,zaQ (fun h1 => ⟨_,rfl,_,_,rfl,rfl,_,rfl,zaQ (fun h2 => ?_) (fun h2 => ?_)⟩) (fun h1 => zeH ?_)⟩
   ·have h1:=of_decide_eq_true h1
    refine ⟨_,rfl,_,rfl,p,k,rfl,by omega,by omega,by omega,fun l rs qs H6 hl s6 h6 hT hql hmem => ?_⟩
    exact ⟨l,rs,qs,_,rfl,s6,h6,hT,by omega,fun x hx => (hmem x).mp hx,fun x hx _ => (hmem x).mpr hx⟩
   all_goals
    refine ⟨Nat.zero_le _,fun o ho => ?_⟩
    have u0:=ze (o:=.lst []) ho
    have ho0 : upd H5 o (.lst []) o = some (.lst []):=zb
    generalize upd H5 o (.lst []) = H5a at u0 ho0 ⊢
    refine ⟨_,rfl,_,rfl,k,k1,D,zad rw rw.length,rfl,SqL.of (u0 _ _ hDD),by omega,by omega,fun l ls cs H6 hl s6 h6l hI hlen hmem => ?_⟩
    have hlo : l ≠ o:=fun e => by rw [e,ho0] at hl; cases hl
    have h6o:=s6 _ _ ho0
    have hil:=hI.length
    have h2n : 2 ^ (zad rw rw.length).length ≤ 65536:=Nat.le_trans (Nat.pow_le_pow_right (by decide) (show (zad rw rw.length).length ≤ 16 by omega)) (by decide)
    have s56 : zy H5 (hide H6 o):=fun b u e => zaE ((u0.trans s6) _ _ e) (zu e ho)
    refine ⟨l,rfl,⟨_,SqL.of h6l⟩,zbb (K:=K) (a:=l) (xs:=ls.map V.ref) (fun i σ H' => ∃ (rs : List Addr) (e8 : Option V),σ = [some (.ref c),some (.ref r),some (.int T'),some (.int p),some (.int k),some (.ref tt),some (.ref D),some (.ref o),e8,none,none] ∧ zy (hide H6 o) H' ∧ H' o = some (.lst (rs.map V.ref)) ∧ zaM (hide H' o) rs ((cs.take i).map fun ch => thr p (ch.map (ze8 pl rw))))
     ⟨[],_,rfl,zbV H6 o,h6o,.nil⟩ (fun i σ H' _ ⟨_,_,_,s3,_⟩ => SqL.of (s3 _ _ (zaE h6l hlo))) ?_ ?_⟩
    ·rintro i y σ H2 hy ⟨rs,e8,rfl,s2,h2o,hrs⟩
     obtain ⟨lo,rfl,hlo'⟩:=zaj hy
     obtain ⟨ch,hch,hat⟩:=Paired.get hI hlo'
     obtain ⟨hsub,hcl⟩:=(hmem ch).mp (List.mem_of_getElem? hch)
     have hloo : lo ≠ o:=fun e => by
      rw [e,h6o] at hat
      injection hat with hat
      injection hat with hat
      cases ch with
      | nil => simp at hcl; omega
      | cons _ _ => simp at hat
     have h2lo:=s2 _ _ (zaE hat hloo)
     have s52:=s56.trans s2
     have hrl':=hrs.length
     rw [List.length_map,List.length_take] at hrl'
     have hil2 : i < cs.length:=(List.getElem?_eq_some_iff.mp hch).1
     refine ⟨_,rfl,.inl ⟨rfl,_,SqL.of h2o⟩,_,rfl,_,rfl,lo,rfl,⟨_,SqL.of h2lo⟩,zU (n:=ch.length) (fun j ys H' => zy H2 H' ∧ ∃ us : List Addr,ys = us.map V.ref ∧ PtB H' us ((ch.take j).map (ze8 pl rw))) ⟨fun _ _ e => e,[],rfl,.nil⟩ ?_ ?_ ?_ ?_⟩
     ·rintro j ys H7 hj ⟨s7,_⟩
      exact ⟨_,.int ch[j],SqL.of (s7 _ _ h2lo),by rw [List.getElem?_map,List.getElem?_eq_getElem hj]; rfl⟩
     ·rintro ys H7 ⟨s7,_⟩
      exact ⟨_,SqL.of (s7 _ _ h2lo),by rw [List.length_map]; exact Nat.le_refl _⟩
     ·rintro j y ys H7 H8 hj ⟨s7,us,rfl,hus⟩ ⟨rfl,hy⟩
      obtain ⟨z,rfl,hz⟩:=zas (hy _ (SqL.of (s7 _ _ h2lo)))
      obtain ⟨j',y',rfl,hj',hrj⟩:=zjz (hsub.subset (List.mem_of_getElem? hz))
      obtain ⟨x,hx⟩ : ∃ x,pl[j']? = some x:=⟨pl[j']'(by omega),by simp⟩
      have s57:=s52.trans s7
      have hul:=hus.length
      rw [List.length_map,List.length_take] at hul
      refine gY ⟨_,rfl,_,rfl,tt,_,_,.int x,rfl,rfl,SqT.of (s57 _ _ hc5.2),zaD (by rw [List.getElem?_map,hx]; rfl),_,rfl,_,rfl,r,_,_,enc (some y'),rfl,rfl,SqL.of (s57 _ _ hr5),zaD (by rw [List.getElem?_map,hrj]; rfl),by show 2 ≤ sizeLine; omega,fun T2 hT2 => ⟨by rw [List.length_map]; omega,s7.trans (ze hT2),us ++ [T2],by rw [List.map_append]; rfl,?_⟩⟩
      rw [take_snoc hz,List.map_append]
      refine Paired.snoc (hus.same (ze hT2)) ?_
      unfold ze8
      rw [Int.toNat_natCast,hx,hrj]
      exact zb
     ·rintro ys H7 Dp ⟨s7,us,rfl,hus⟩ hDp
      rw [List.take_length] at hus
      have v8:=ze (o:=.lst (us.map V.ref)) hDp
      refine ⟨p,Dp,_,rfl,(hus.same v8).pts zb,by rw [List.length_map]; omega,hp,zdT hrl hP hsub,fun tl H9 htl s9 h9 => ?_⟩
      have s29:=s7.trans (v8.trans s9)
      have h9o:=s29 _ _ h2o
      have hto : tl ≠ o:=fun e => by rw [e,h9o] at h9; injection h9 with h9; cases h9
      refine ⟨o,_,_,rfl,rfl,h9o,by rw [List.length_map]; omega,rs ++ [tl],_,rfl,?_,by rw [zb,List.map_append]; rfl,?_⟩
      ·refine zY (s2.trans s29) ?_
       unfold hide
       rw [if_pos rfl]
      ·rw [zdD,take_snoc hch,List.map_append]
       exact Paired.snoc (hrs.same (zaK s29)) (zaE h9 hto)
    ·rintro σ H2 ⟨rs,e8,rfl,s2,h2o,hrs⟩
     rw [List.length_map,hil,List.take_length] at hrs
     refine ⟨o,rs,_,_,rfl,s56.trans s2,h2o,hrs.same (zbV H2 o),by rw [List.length_map]; omega,fun x hx => ?_,fun x hx ht => ?_⟩
     ·obtain ⟨ch,h1,rfl⟩:=List.mem_map.mp hx
      obtain ⟨hsub,hcl⟩:=(hmem ch).mp h1
      obtain ⟨a1,a2,_⟩:=zeP hp (zdT hrl hP hsub)
      exact ⟨by rw [a1,List.length_map]; exact hcl,a2⟩
     ·obtain ⟨ch,h1,h2,h3⟩:=zf7 hp hrl hP (t:=T'.toNat) hx (by omega) (by omega)
      exact List.mem_map.mpr ⟨ch,(hmem ch).mpr ⟨h1,h2⟩,h3.symm⟩
  ·rintro σ H6 ⟨o,rs,qs,e8,rfl,s6,h6o,hT,hql,hisP,hcomp⟩
   intro Kd hKd
   have v0:=ze (o:=.dT []) hKd
   have hrq:=hT.length
   refine ⟨_,rfl,o,rfl,⟨_,SqL.of (v0 _ _ h6o)⟩,zbb (K:=K) (a:=o) (xs:=rs.map V.ref) (fun i σ H' => ∃ (kvs : List (List Key × V)) (mss : List (List Int)) (e10 : Option V),σ = [some (.ref c),some (.ref r),some (.int T'),some (.int p),some (.int k),some (.ref tt),some (.ref D),some (.ref o),e8,some (.ref Kd),e10] ∧
    zy H6 H' ∧ H' Kd = some (.dT kvs) ∧ KeysAre kvs mss ∧ mss.Nodup ∧ mss.length ≤ i ∧ ∀ x,x ∈ mss ↔ x ∈ qs.take i)
    ⟨[],[],_,rfl,v0,zb,rfl,by simp,Nat.le_refl _,fun x => by simp⟩ (fun i σ H' _ ⟨_,_,_,_,s3,_⟩ => SqL.of (s3 _ _ h6o)) ?_ ?_⟩
   ·rintro i y σ H7 hy ⟨kvs,mss,e10,rfl,s7,h7K,hkm,hnd',hml,hmem⟩
    obtain ⟨rb,rfl,hrb⟩:=zaj hy
    obtain ⟨qq,hqq,hat⟩:=Paired.get hT hrb
    have hiq : i < qs.length:=(List.getElem?_eq_some_iff.mp hqq).1
    have hmf : kvs.length = mss.length:=by
     have:=congrArg List.length hkm
     rw [List.length_map,List.length_map] at this
     exact this
    refine ⟨_,rfl,_,rfl,Kd,_,rfl,zhS.t (k:=qq.map Sum.inl) h7K (by rw [s7 _ _ hat,List.map_map]; rfl) (by omega),?_⟩
    obtain ⟨mss',m1,m2,m3,m4⟩:=zf5 hkm hnd' qq (.bl true)
    refine ⟨_,mss',_,rfl,zY s7 hKd,zb,m1,m2,by omega,fun x => ?_⟩
    rw [m4 x,hmem x,take_snoc hqq,List.mem_append,List.mem_singleton]
   ·rintro σ H7 ⟨kvs,mss,e10,rfl,s7,h7K,hkm,hnd',hml,hmem⟩
    rw [List.length_map,hrq] at hmem hml
    rw [List.take_length] at hmem
    have hmf : kvs.length = mss.length:=by
     have:=congrArg List.length hkm
     rw [List.length_map,List.length_map] at this
     exact this
    refine ⟨_,rfl,Kd,kvs,rfl,h7K,fun ob => ?_⟩
    have s78 : zy H6 (hide H7 Kd):=fun b u e => zaE (s7 _ _ e) (zu e hKd)
    have s48:=sD.trans (s6.trans s78)
    refine zU (n:=kvs.length) (fun i ys H' => zy (hide H7 Kd) H' ∧ H' Kd = some (.frz ob (.dT kvs)) ∧ ∃ us : List Addr,ys = us.map V.ref ∧ us.length ≤ i ∧ zaM H' us ((mss.take i).filter fun x => decide (T' ≤ (hits p x (hps pl rw) : Int)))) ⟨zjy,zb,[],rfl,Nat.le_refl _,.nil⟩ (fun i ys H' hi ⟨_,hK,_⟩ => ⟨hK,hi⟩) (fun ys H' ⟨_,hK,_⟩ => ⟨hK,Nat.le_refl _⟩) ?_ ?_
    ·rintro i y ys H8 H9 hi ⟨s8,h8K,us,rfl,hul,hus⟩ ⟨rfl,a,kk,rfl,hk,ha⟩
     obtain ⟨qq,hqq,rfl⟩ : ∃ qq,mss[i]? = some qq ∧ kk = qq.map Sum.inl:=by
      rw [hkm,List.getElem?_map] at hk
      cases e : mss[i]? with
      | none => rw [e] at hk; cases hk
      | some qq => rw [e] at hk; exact ⟨qq,rfl,(Option.some.inj hk).symm⟩
     have ha' : H9 a = some (.tup (qq.map V.int)):=by
      rw [ha,List.map_map]
      rfl
     have s49:=s48.trans s8
     refine ⟨_,rfl,_,rfl,_,rfl,c,tt,r,a,p,k,pl,qq,rw,rfl,hc.same s49,s49 _ _ hra,hrl,ha',by omega,by omega,hpl,by omega,fun fl H10 hfl s10 h10 => ?_⟩
     refine ⟨fl,_,rfl,.inl (SqL.of h10),_,rfl,_,_,rfl,rfl,_,rfl,?_⟩
     have ef : ((zck p pl rw qq pl.length).map V.int).length = hits p qq (hps pl rw):=by rw [List.length_map]; exact zdn hrl
     rw [ef]
     have hsn : (mss.take (i + 1)).filter (fun x => decide (T' ≤ (hits p x (hps pl rw) : Int))) = (mss.take i).filter (fun x => decide (T' ≤ (hits p x (hps pl rw) : Int))) ++ [qq].filter (fun x => decide (T' ≤ (hits p x (hps pl rw) : Int))):=by rw [take_snoc hqq,List.filter_append]
     refine zaQ (fun h => ⟨_,rfl,?_,s8.trans s10,s10 _ _ h8K,us ++ [a],by rw [List.map_append]; rfl,by rw [List.length_append]; exact Nat.succ_le_succ hul,?_⟩) (fun h => ⟨s8.trans s10,s10 _ _ h8K,us,rfl,by omega,?_⟩)
     ·rw [List.length_map]; omega
     ·rw [hsn,List.filter_cons_of_pos (p:=fun x => decide (T' ≤ (hits p x (hps pl rw) : Int))) h]
      exact Paired.snoc (hus.same s10) (s10 _ _ ha')
     ·rw [hsn,List.filter_cons_of_neg (p:=fun x => decide (T' ≤ (hits p x (hps pl rw) : Int))) h,List.filter_nil,List.append_nil]
      exact hus.same s10
    ·rintro ys H8 Dl ⟨s8,h8K,us,rfl,hul,hus⟩ hDl
     rw [hmf,List.take_length] at hus
     have v9:=ze (o:=.lst (us.map V.ref)) hDl
     have s49:=(s48.trans s8).trans v9
     have hus9:=hus.same v9
     have h9l : upd H8 Dl (.lst (us.map V.ref)) Dl = some (.lst (us.map V.ref)):=zb
     generalize upd H8 Dl (.lst (us.map V.ref)) = H9 at s49 hus9 h9l ⊢
     obtain ⟨ps,rfl,hps2,hps3⟩:=hus9.zs
     have hL : ∀ x,x ∈ ps.map (·.2) ↔ IsP p k x ∧ T' ≤ (hits p x (hps pl rw) : Int):=fun x => by
      rw [← hps2,List.mem_filter,hmem x,decide_eq_true_iff]
      exact ⟨fun h => ⟨hisP x h.1,h.2⟩,fun h => ⟨hcomp x h.1 h.2,h.2⟩⟩
     have hTL : zh2 H9 k p ps:=fun x hx => ⟨hps3 x hx,((hL x.2).mp (List.mem_map_of_mem hx)).1⟩
     have e1 : (ps.map (·.1)).map V.ref = ps.map (fun q => V.ref q.1):=by rw [List.map_map]; rfl
     rw [e1] at h9l
     refine ⟨Dl,k,p,ps,rfl,SqL.of h9l,hTL,k0,by omega,fun l ps' hl hperm hsort => ?_⟩
     have e2 : ps'.map (fun q => V.ref q.1) = (ps'.map (·.1)).map V.ref:=by rw [List.map_map]; rfl
     rw [e2]
     have hp2 : (ps'.map (·.2)).Perm (ps.map (·.2)):=hperm.map _
     refine q l (ps'.map (·.1)) (ps'.map (·.2)) _ (s49.free hl) (s49.trans (ze hl)) zb ((zaM.of fun x hx => hps3 x (hperm.mem_iff.mp hx)).same (ze hl)) (by rw [hp2.length_eq,← hps2]; exact Nat.le_trans (List.length_filter_le _ _) (by omega)) (zhh (by omega) (fun x hx => ((hL x).mp (hp2.mem_iff.mp hx)).1) (hp2.nodup_iff.mpr (by rw [← hps2]; exact hnd'.filter _)) ?_) fun x => ?_
     ·rw [List.pairwise_map]
      exact hsort
     ·rw [hp2.mem_iff]
      exact hL x
end
end My
end
section
set_option maxHeartbeats 3999000
namespace My
open PySem L2 PyProof.Rows
section
variable {P : Program} {w : World} {K : PySem.W.Frag} {mg : Str → Option Value} {base : Heap} {t : Adr}
theorem zf8 {H : Hp} {d : Nat} {x : V} (hx : zed x = true) : EqD K H d x x true:=by
 have h:=EqD.flat (K:=K) (H:=H) (d:=d) (x:=x) (y:=x) hx hx
 have e : eqV x x = true:=by
  cases x <;> simp_all [eqV,zed]
 rw [e] at h
 exact h
theorem zfb : ∀ {pl : List Int} {rw : List (Option Int)},rw.length = pl.length → (hps pl rw).length = (rw.filter Option.isSome).length
 | [],[],_ => rfl
 | [],_ :: _,h => by simp at h
 | _ :: _,[],h => by simp at h
 | x :: pl,o :: rw,h => by
  have ih:=zfb (pl:=pl) (rw:=rw) (by simpa using h)
  cases o with
  | none => exact ih
  | some y =>
   show (hps pl rw).length + 1 = (rw.filter Option.isSome).length + 1
   rw [ih]
theorem zjA {a b : Nat} : decide (V.int (a : Int) = V.int (b : Int)) = decide (a = b):=by
 by_cases h : a = b
 ·rw [h]; simp
 ·rw [decide_eq_false h,decide_eq_false fun e => h (by injection e with e; omega)]
theorem zaM.put {H : Hp} {rs : List Addr} {qs : List (List Int)} {f : Addr} {xs : List V} {o : HO} (h : zaM H rs qs) (hf : H f = some (.lst xs)) : zaM (upd H f o) rs qs:=Paired.mono (fun a q z => by
 have : a ≠ f:=fun e => by rw [e,hf] at z; cases z
 show upd H f o a = _
 rw [zp this]
 exact z) h
def zc5 (n j : Nat) : List (Option Int):=List.replicate j (some 1) ++ List.replicate (n - j) none
theorem zjB {n j : Nat} (h : j < n) : ((zc5 n j).map enc).set j (.int 1) = (zc5 n (j + 1)).map enc:=by
 obtain ⟨m,rfl⟩ : ∃ m,n = j + 1 + m:=⟨n - j - 1,by omega⟩
 unfold zc5
 rw [show j + 1 + m - j = m + 1 by omega,show j + 1 + m - (j + 1) = m by omega,List.replicate_succ,List.replicate_succ' (n:=j),List.append_assoc]
 rw [List.map_append,List.map_append,List.set_append_right _ _ (by simp)]
 simp [enc]
theorem zeC {H : Hp} {Q : VK} {a b l l' : Addr} {M : Int} {rs rs' : List Addr} {qs : List (List Int)} (ha : H a = some (.tup [.int M,.ref l])) (hb : H b = some (.tup [.int M,.ref l'])) (hl : H l = some (.lst (rs.map V.ref))) (hl' : H l' = some (.lst (rs'.map V.ref))) (h1 : zaM H rs qs) (h2 : zaM H rs' qs) (q : Q (.bl false) H) : zlR K true (.ref a) (.ref b) H Q:=by
 have hlen : (rs.map V.ref).length = (rs'.map V.ref).length:=by rw [List.length_map,List.length_map,h1.length,h2.length]
 have hll : EqD K H 8 (.ref l) (.ref l') true:=by
  by_cases e : l = l'
  ·subst e; exact .same
  ·have h:=EqD.lists (K:=K) (d:=7) (e:=fun _ => true) e (SqL.of hl) (SqL.of hl') hlen fun j x y e1 e2 => ?_
   ·have e : (List.range (rs.map V.ref).length).all (fun _ => true) = true:=by simp
    rw [e] at h
    exact h
   ·obtain ⟨a,rfl,ha⟩:=zaj e1
    obtain ⟨b,rfl,hb⟩:=zaj e2
    obtain ⟨q,g1,g2⟩:=Paired.get h1 ha
    obtain ⟨q',g3,g4⟩:=Paired.get h2 hb
    rw [g1] at g3
    cases g3
    by_cases hne : a = b
    ·subst hne
     exact .same
    ·have h:=EqD.tups (K:=K) (H:=H) (d:=6) (e:=fun _ => true) hne (SqT.of g2) (SqT.of g4) fun j x y h1 h2 => by
      rw [h1] at h2
      cases h2
      obtain ⟨z,rfl,_⟩:=zas h1
      exact zf8 rfl
     have e : ((List.range (min (q.map V.int).length (q.map V.int).length)).all (fun _ => true) && (q.map V.int).length == (q.map V.int).length) = true:=by simp
     rw [e] at h
     exact h
 refine ⟨a,b,_,_,rfl,rfl,.inr ⟨SqT.of ha,SqT.of hb⟩,.inr ⟨rfl,fun _ => true,fun j x y e1 e2 => ?_,?_⟩⟩
 ·match j with
  | 0 => cases e1; cases e2; exact zf8 rfl
  | 1 => cases e1; cases e2; exact hll
  | j + 2 => simp at e1
 ·exact q
theorem zbf : FnScope ["script","at","code","row","some","found","ones","most","due","few","k"] ["script"] (zi zbw):=⟨rfl,rfl,rfl,by decide +kernel,rfl,by decide +kernel,by decide +kernel⟩
theorem zlu {fd : FuncData} (T : Txt K mg t) (F : Fun K "law" "law" zbw t.law fd) : FnOk P w K mg base CX0 9 t.law fd ["script"] (zeT K):=by
 obtain ⟨fd_l_code,F_l_code,b_l_code⟩:=T.f_l_code
 have G_l_code:=zh6 (P:=P) (w:=w) (base:=base) T F_l_code
 obtain ⟨fd_l_row,F_l_row,b_l_row⟩:=T.f_l_row
 have G_l_row:=zjk (P:=P) (w:=w) (base:=base) T F_l_row
 obtain ⟨fd_l_told,F_l_told,b_l_told⟩:=T.f_l_told
 have G_l_told:=zid (P:=P) (w:=w) (base:=base) T F_l_told
 obtain ⟨fd_l_near,F_l_near,b_l_near⟩:=T.f_l_near
 have G_l_near:=zih (P:=P) (w:=w) (base:=base) T F_l_near
 obtain ⟨fd_l_fits,F_l_fits,b_l_fits⟩:=T.f_l_fits
 have G_l_fits:=zeB (P:=P) (w:=w) (base:=base) T F_l_fits
 obtain ⟨fd_l_whole,F_l_whole,b_l_whole⟩:=T.f_l_whole
 have G_l_whole:=zgy (P:=P) (w:=w) (base:=base) T F_l_whole
 refine F.ok zbf (fun vs H Q E h => ?_) (fun cdv A outer s H vs Q E hr h => ?_)
 ·obtain ⟨a,ns,rfl,_⟩:=h
  rfl
 ·obtain ⟨a,ns,rfl,hS,hlen,q⟩:=h
  have hu : (A.deeper (envOfC (Str.ofString "law") (zi zbw) s.heap.objs.size t.law cdv)).units + 20 < cLine:=by have:=hr.units; omega
  refine ⟨_,(@zf _ _ _ _ _ (@zaG _ _ _ _ _ _ _ _ PassesOwn.never rfl (@zaa _ _ _ _ _ _ rfl T.range_ (@za _ _ _ _ _ (@zh _ _ _ _) (@zg _) (by rfl)) (by rfl)) (@zj _ _ (1) _ zbf.nd rfl (Or.inl rfl) (by trivial)) (@zf _ _ _ _ _ (@zn _ _ (2) _ _ _ _ zbf.nd rfl (Or.inr rfl) (@zz _ _ _ _ _ _ _ _ _ _ _ _ _ _ _ _ G_l_code (hr.mono (by decide)) rfl T.m_l_code F_l_code.kp b_l_code .nil (@zW _) (@za _ _ _ _ _ (@pvx _ 0 _ _ rfl) (by exact (@za _ _ _ _ _ (@zl _ _ _ _ _ _ _ _ (@zZ _) (@zh _ _ _ _) (@pvx _ 1 _ _ rfl)) (@za _ _ _ _ _ (@zh _ _ _ _) (@za _ _ _ _ _ (@zh _ _ _ _) (@zg _) (by rfl)) (by rfl)) (by rfl))) (by rfl)) (by decide) (by rfl) (by rfl)) (by rfl) (by trivial)) (by exact (@zf _ _ _ _ _ (@zn _ _ (3) _ _ _ _ zbf.nd rfl (Or.inr rfl) (@zz _ _ _ _ _ _ _ _ _ _ _ _ _ _ _ _ G_l_row (hr.mono (by decide)) rfl T.m_l_row F_l_row.kp b_l_row .nil (@zW _) (@za _ _ _ _ _ (@pvx _ 0 _ _ rfl) (@za _ _ _ _ _ (@zl _ _ _ _ _ _ _ _ (@zag _) (@zl _ _ _ _ _ _ _ _ (@zZ _) (@zh _ _ _ _) (@pvx _ 1 _ _ rfl)) (@zh _ _ _ _)) (@za _ _ _ _ _ (@pvx _ 2 _ _ rfl) (@zg _) (by rfl)) (by rfl)) (by rfl)) (by decide) (by rfl) (by rfl)) (by rfl) (by trivial)) (by exact (@zf _ _ _ _ _ (@zav _ _ _ _ _ _ _ _ _ _ _ _ _ (4) _ _ _ zbf.nd rfl (Or.inl rfl) (CompSc.of (N':=["entry"]) (ix:=[none]) (zi zbw) ["script","at","code","row","some","found","ones","most","due","few","k"] rfl rfl (by decide +kernel)) rfl (@zam _ _ rfl) (@zac _ _ _ _ (@pvx _ 3 _ _ rfl)) (fun _ _ _ _ => (@zj _ _ (0) _ (show (["entry"] : List Str).Nodup by decide +kernel) rfl (Or.inl rfl) (by trivial))) (fun _ _ _ _ => (@zaB _ _ _ (@zD _ _ _ _ _ _ _ _ (@zc8 _) (@pvx _ 0 _ _ rfl) (@zbO _ _ _) (zN _)))) (fun _ _ _ _ => (@pvx _ 0 _ _ rfl)) (by rfl) (by intro _; rfl) (by trivial)) (by exact (@zf _ _ _ _ _ (@zn _ _ (5) _ _ _ _ zbf.nd rfl (Or.inl rfl) (@zz _ _ _ _ _ _ _ _ _ _ _ _ _ _ _ _ G_l_told (hr.mono (by decide)) rfl T.m_l_told F_l_told.kp b_l_told .nil (@zW _) (@za _ _ _ _ _ (@pvx _ 2 _ _ rfl) (@za _ _ _ _ _ (@zaT _ _ _ _ _ _ _ _ _ (@zeG _) (by rfl) T.list_ boot_list (@za _ _ _ _ _ (@pvx _ 3 _ _ rfl) (@zg _) (by rfl)) (by decide) (by decide) (by rfl) (by rfl)) (@zg _) (by rfl)) (by rfl)) (by decide) (by rfl) (by rfl)) (by rfl) (by trivial)) (by exact (@zf _ _ _ _ _ (@zjx _ _ _ (@za7 _ _ _ _ _ _ _ _ (@zD _ _ _ _ _ _ _ _ (@zff _) (@zr _ _ _ _ _ _ _ _ _ (@zB _) (by rfl) T.len_ boot_len (@za _ _ _ _ _ (@pvx _ 4 _ _ rfl) (@zg _) (by rfl)) (by decide) (by decide) (by rfl) (by rfl)) (@zE _ _ _ _ _ _ _ (@za6 _) (@pvx _ 2 _ _ rfl) (@zh _ _ _ _) (fun _ _ => rfl)) (zN _)) (@zm _ _ _ (@za7 _ _ _ _ _ _ _ _ (@zD _ _ _ _ _ _ _ _ (@zit _) (@pvx _ 5 _ _ rfl) (@zdq _ _ _ _) (zN _)) (@zm _ _ _ (@zG _ _ _ _ (@zcr _ _ _ _))) (@zaq _))) (@zf _ _ _ _ _ (@zn _ _ (6) _ _ _ _ zbf.nd rfl (Or.inl rfl) (@zz _ _ _ _ _ _ _ _ _ _ _ _ _ _ _ _ G_l_near (hr.mono (by decide)) rfl T.m_l_near F_l_near.kp b_l_near .nil (@zW _) (@za _ _ _ _ _ (@pvx _ 2 _ _ rfl) (@za _ _ _ _ _ (@pvx _ 3 _ _ rfl) (@za _ _ _ _ _ (@zE _ _ _ _ _ _ _ (@za6 _) (@pvx _ 2 _ _ rfl) (@zh _ _ _ _) (fun _ _ => rfl)) (@zg _) (by rfl)) (by rfl)) (by rfl)) (by decide) (by rfl) (by rfl)) (by rfl) (by trivial)) (by exact (@zf _ _ _ _ _ (@zn _ _ (7) _ _ _ _ zbf.nd rfl (Or.inr rfl) (@zr _ _ _ _ _ _ _ _ _ (@zez _ rfl) (by rfl) T.max_ boot_max (@za _ _ _ _ _ (@zai _ _ _ _ _ _ _ _ _ _ _ _ _ (CompSc.of (N':=["one","code","row"]) (ix:=[none,some 2,some 3]) (zi zbw) ["script","at","code","row","some","found","ones","most","due","few","k"] rfl rfl (by decide +kernel)) rfl (@zam _ _ rfl) (@zac _ _ _ _ (@pvx _ 6 _ _ rfl)) (fun _ _ _ _ => (@zj _ _ (0) _ (show (["one","code","row"] : List Str).Nodup by decide +kernel) rfl (Or.inl rfl) (by trivial))) (fun _ _ _ _ => (@z8 _)) (fun _ _ _ _ => (@zr _ _ _ _ _ _ _ _ _ (@zan _ (K) rfl) (by rfl) T.len_ boot_len (@za _ _ _ _ _ (@zz _ _ _ _ _ _ _ _ _ _ _ _ _ _ _ _ G_l_fits (hr.mono (by decide)) rfl T.m_l_fits F_l_fits.kp b_l_fits .nil (@zW _) (@za _ _ _ _ _ (@pvx _ 1 _ _ rfl) (@za _ _ _ _ _ (@pvx _ 2 _ _ rfl) (@za _ _ _ _ _ (@pvx _ 0 _ _ rfl) (@zg _) (by rfl)) (by rfl)) (by rfl)) (by decide) (by rfl) (by rfl)) (@zg _) (by rfl)) (by decide) (by decide) (by rfl) (by rfl))) (by intro _; rfl)) (@zg _) (by rfl)) (by decide) (by decide) (by rfl) (by rfl)) (by rfl) (by trivial)) (by exact (@zf _ _ _ _ _ (@zn _ _ (8) _ _ _ _ zbf.nd rfl (Or.inl rfl) (@za5 _ _ _ _ _ (@za _ _ _ _ _ (@pvx _ 7 _ _ rfl) (@za _ _ _ _ _ (@zai _ _ _ _ _ _ _ _ _ _ _ _ _ (CompSc.of (N':=["one","code","row","most"]) (ix:=[none,some 2,some 3,some 7]) (zi zbw) ["script","at","code","row","some","found","ones","most","due","few","k"] rfl rfl (by decide +kernel)) rfl (@zam _ _ rfl) (@zac _ _ _ _ (@pvx _ 6 _ _ rfl)) (fun _ _ _ _ => (@zj _ _ (0) _ (show (["one","code","row","most"] : List Str).Nodup by decide +kernel) rfl (Or.inl rfl) (by trivial))) (fun _ _ _ _ => (@zaB _ _ _ (@zD _ _ _ _ _ _ _ _ (@zbQ _) (@zr _ _ _ _ _ _ _ _ _ (@zan _ (K) rfl) (by rfl) T.len_ boot_len (@za _ _ _ _ _ (@zz _ _ _ _ _ _ _ _ _ _ _ _ _ _ _ _ G_l_fits (hr.mono (by decide)) rfl T.m_l_fits F_l_fits.kp b_l_fits .nil (@zW _) (@za _ _ _ _ _ (@pvx _ 1 _ _ rfl) (@za _ _ _ _ _ (@pvx _ 2 _ _ rfl) (@za _ _ _ _ _ (@pvx _ 0 _ _ rfl) (@zg _) (by rfl)) (by rfl)) (by rfl)) (by decide) (by rfl) (by rfl)) (@zg _) (by rfl)) (by decide) (by decide) (by rfl) (by rfl)) (@pvx _ 3 _ _ rfl) (zN _)))) (fun _ _ _ _ => (@pvx _ 0 _ _ rfl)) (by intro _; rfl)) (@zg _) (by rfl)) (by rfl))) (by rfl) (by trivial)) (by exact (@zf _ _ _ _ _ (@za7 _ _ _ _ _ _ _ _ (@PW.pt _ _ _ (@zil _ _ _ _ _ _ _ (@zga _ _ _ _ (@zf9 _ _ _ (@zr _ _ _ _ _ _ _ _ _ (@zbT _) (by rfl) T.isinstance_ boot_isinstance (@za _ _ _ _ _ (@pvx _ 5 _ _ rfl) (@za _ _ _ _ _ (@zc6 _ _ (.ty "tuple") _ _ rfl T.tuple_ boot_tuple rfl (by decide) (by decide)) (@zg _) (by rfl)) (by rfl)) (by decide) (by decide) (by rfl) (by rfl)) (by intro _; rfl))) (@zil _ _ _ _ _ _ _ (@zD _ _ _ _ _ _ _ _ (@ziB _ hu) (@pvx _ 5 _ _ rfl) (@pvx _ 8 _ _ rfl) (zN _)) (@zij _ _ _ _ (@zga _ _ _ _ (@zf9 _ _ _ (@zz _ _ _ _ _ _ _ _ _ _ _ _ _ _ _ _ G_l_whole (hr.mono (by decide)) rfl T.m_l_whole F_l_whole.kp b_l_whole .nil (@zW _) (@za _ _ _ _ _ (@zE _ _ _ _ _ _ _ (@za6 _) (@pvx _ 5 _ _ rfl) (@zh _ _ _ _) (fun _ _ => rfl)) (@zg _) (by rfl)) (by decide) (by rfl) (by rfl)) (by intro _; rfl))))))) (@zm _ _ _ (@zG _ _ _ _ (@zcr _ _ _ _))) (@zaq _)) (by exact (@zf _ _ _ _ _ (@zbZ _ _ _ _ (@zcu _ _ _ _ _ _ _ _ _ _ _ _ PySem.F.plainAttrs_list PySem.F.slot_list_append PySem.F.type_list_append (@zb0 _) (@zE _ _ _ _ _ _ _ (@za6 _) (@pvx _ 5 _ _ rfl) (@zh _ _ _ _) (fun _ _ => rfl)) (@za _ _ _ _ _ (@zh _ _ _ _) (@zg _) (by rfl)) (by rfl) (by rfl) (by rfl) (by rfl) (by rfl)) (by rfl)) (by exact (@zm _ _ _ (@za7 _ _ _ _ _ _ _ _ (@zD _ _ _ _ _ _ _ _ (@ziB _ hu) (@zz _ _ _ _ _ _ _ _ _ _ _ _ _ _ _ _ G_l_told (hr.mono (by decide)) rfl T.m_l_told F_l_told.kp b_l_told .nil (@zW _) (@za _ _ _ _ _ (@pvx _ 2 _ _ rfl) (@za _ _ _ _ _ (@pvx _ 3 _ _ rfl) (@zg _) (by rfl)) (by rfl)) (by decide) (by rfl) (by rfl)) (@pvx _ 8 _ _ rfl) (zN _)) (@zm _ _ _ (@zG _ _ _ _ (@zcr _ _ _ _))) (@zaq _))))))))))))))) (by exact (@zf _ _ _ _ _ (@zn _ _ (9) _ _ _ _ zbf.nd rfl (Or.inl rfl) (@zl _ _ _ _ _ _ _ _ (@zds _) (@zL _ _ _ _ (@za _ _ _ _ _ (@zbO _ _ _) (@zg _) (by rfl))) (@zr _ _ _ _ _ _ _ _ _ (@zB _) (by rfl) T.len_ boot_len (@za _ _ _ _ _ (@pvx _ 3 _ _ rfl) (@zg _) (by rfl)) (by decide) (by decide) (by rfl) (by rfl))) (by rfl) (by trivial)) (by exact (@zf _ _ _ _ _ (@zaG _ _ _ _ _ _ _ _ PassesOwn.never rfl (@zaa _ _ _ _ _ _ rfl T.range_ (@za _ _ _ _ _ (@zl _ _ _ _ _ _ _ _ (@zbP _) (@zE _ _ _ _ _ _ _ (@za6 _) (@pvx _ 2 _ _ rfl) (@zh _ _ _ _) (fun _ _ => rfl)) (@zh _ _ _ _)) (@zg _) (by rfl)) (by rfl)) (@zj _ _ (10) _ zbf.nd rfl (Or.inl rfl) (by trivial)) (@zm _ _ _ (@zcj _ _ _ _ _ _ (@zh _ _ _ _) (@zkM _ _ _ _ _ _ _ (@pvx _ 9 _ _ rfl) (@pvx _ 10 _ _ rfl) set_list (by intro _; rfl)) (by rfl) (by rfl) (by rfl))) (by intro _; rfl)) (by exact (@zm _ _ _ (@za7 _ _ _ _ _ _ _ _ (@zD _ _ _ _ _ _ _ _ (@zit _) (@zz _ _ _ _ _ _ _ _ _ _ _ _ _ _ _ _ G_l_told (hr.mono (by decide)) rfl T.m_l_told F_l_told.kp b_l_told .nil (@zW _) (@za _ _ _ _ _ (@pvx _ 2 _ _ rfl) (@za _ _ _ _ _ (@pvx _ 9 _ _ rfl) (@zg _) (by rfl)) (by rfl)) (by decide) (by rfl) (by rfl)) (@zdq _ _ _ _) (zN _)) (@zm _ _ _ (@zG _ _ _ _ (@zcr _ _ _ _))) (@zaq _))))))))))))))))) (by intro _; rfl)) (by exact (@zm _ _ _ (@zG _ _ _ _ (@zcr _ _ _ _))))),?_⟩
  have hsl:=sizeLine_eq
  refine ⟨3,rfl,by decide,by decide,?_⟩
  refine zaS (lo:=0) (n:=3) (fun i σ H' => ∃ (e1 e2 e3 e4 e5 e6 e7 e8 e9 e10 : Option V),σ = [some (.ref a),e1,e2,e3,e4,e5,e6,e7,e8,e9,e10] ∧ zy H H') ⟨none,none,none,none,none,none,none,none,none,none,rfl,fun _ _ e => e⟩ ?_ ?_
  ·rintro i σ H0 hi ⟨e1,e2,e3,e4,e5,e6,e7,e8,e9,e10,rfl,s0⟩
   refine ⟨_,rfl,_,rfl,_,_,rfl,rfl,.inl ⟨by decide,by decide⟩,a,ns,3 * (0 + (i : Int)),4,10,rfl,s0.seq hS,hlen,by omega,by omega,by decide,by decide,by decide,by decide,fun c tt p kI pl H1 hc1 s1 co h1c h1t => ?_⟩
   have rp:=zM co.pr
   have k1:=co.k1
   have kk:=co.kk
   have kn:=co.kl
   have ln:=co.ln
   obtain ⟨k,rfl⟩ : ∃ k : Nat,kI = k:=⟨kI.toNat,by omega⟩
   have sA1:=s0.trans s1
   refine ⟨_,rfl,_,rfl,_,_,rfl,rfl,.inl ⟨by decide,by decide⟩,_,_,rfl,rfl,_,rfl,a,c,tt,ns,3 * (0 + (i : Int)) + 1,p,k,pl,rfl,sA1.seq hS,hlen,by omega,by omega,⟨h1c,h1t⟩,by omega,by omega,co.rg,by omega,fun r rw H2 hr2 s2 hrl hrw h2r => ?_⟩
   have sA2:=sA1.trans s2
   have hc2 : zbd H2 c tt p k pl:=⟨s2 _ _ h1c,s2 _ _ h1t⟩
   have hcnt:=zfb hrl
   refine ⟨_,rfl,r,rfl,⟨_,SqL.of h2r⟩,zeq (kp:=fun v => !decide (v = .non)) (f:=id) (SqL.of h2r) (by rw [List.length_map]; omega) ?_ fun d hd => ?_⟩
   ·intro j x R B hx hR
    obtain ⟨o,rfl,_⟩:=zeV hx
    refine ⟨_,rfl,rfl,_,rfl,?_⟩
    refine zaQ (fun h => ?_) (fun h => ?_)
    ·rw [if_pos h] at hR
     exact ⟨_,rfl,hR⟩
    ·rw [if_neg h] at hR
     exact hR
   have v3:=ze (o:=.lst (((rw.map enc).filter fun v => !decide (v = V.non)).map id)) hd
   have h3d : upd H2 d (.lst (((rw.map enc).filter fun v => !decide (v = V.non)).map id)) d = _:=zb
   have hsl3 : (((rw.map enc).filter fun v => !decide (v = V.non)).map id).length = (hps pl rw).length:=by
    rw [hcnt,List.length_map,List.filter_map,List.length_map]
    congr 1
    refine List.filter_congr fun o _ => ?_
    cases o <;> simp [enc]
   generalize upd H2 d (.lst (((rw.map enc).filter fun v => !decide (v = V.non)).map id)) = H3 at v3 h3d ⊢
   have hc3:=hc2.same v3
   have h3r:=v3 _ _ h2r
   refine ⟨_,rfl,_,rfl,r,_,rfl,.inl (SqL.of h3r),fun hn hhn => ?_⟩
   have v4:=ze (o:=.lst (rw.map enc)) hhn
   have h4n : upd H3 hn (.lst (rw.map enc)) hn = some (.lst (rw.map enc)):=zb
   generalize upd H3 hn (.lst (rw.map enc)) = H4 at v4 h4n ⊢
   refine ⟨c,tt,hn,p,k,pl,rw,rfl,hc3.same v4,h4n,hrl,by omega,co.pr,co.nd,co.rg,hrw,by omega,by omega,fun v H5 s5 tv => ?_⟩
   have s25:=(v3.trans v4).trans s5
   have s35:=v4.trans s5
   refine ⟨fun σ' H' => ∃ (f4 f5 f6 f7 f8 f9 f10 : Option V),σ' = [some (.ref a),some (.int (0 + (i : Int))),some (.ref c),some (.ref r),f4,f5,f6,f7,f8,f9,f10] ∧ zy H2 H',?_,?_⟩
   ·have hc5:=hc2.same s25
    refine ⟨_,rfl,d,_,rfl,.inl (SqL.of (s35 _ _ h3d)),_,rfl,c,_,_,_,rfl,rfl,SqT.of hc5.1,rfl,_,_,rfl,rfl,_,rfl,?_⟩
    rw [hsl3]
    rcases tv with ⟨h1,rfl⟩ | ⟨h1,z,l,rs,qs,M,rfl,hz,hl,h5z,h5l,hT5,hz5,hR5,hkM,hex,hmo,hm5⟩
    ·refine zaQ (fun _ => ?_) (fun h => absurd (decide_eq_true (by omega)) h)
     refine ⟨_,rfl,rfl,_,rfl,?_⟩
     refine zaQ (fun hh => absurd hh (by simp)) (fun _ => ?_)
     exact ⟨_,_,_,_,_,_,_,rfl,s25⟩
    ·refine zaQ (fun h => absurd (of_decide_eq_true h) (by omega)) (fun _ => ?_)
     have h5r:=s25 _ _ h2r
     refine ⟨_,rfl,_,rfl,_,rfl,c,_,_,_,rfl,rfl,SqT.of hc5.1,rfl,c,tt,r,p,k,(k : Int),pl,rw,rfl,hc5,h5r,hrl,by omega,co.pr,co.nd,co.rg,hrw,by omega,by omega,Int.le_refl _,fun du rs' qs' H6 hdu s6 h6d hT6 hz6 hR6 hm6 => ?_⟩
     have hlr:=hT6.length
     have hne : qs' ≠ []:=fun e => by
      obtain ⟨x,hx1,hx2⟩:=hex
      have:=(hm6 x).mpr ⟨hx1,by omega⟩
      rw [e] at this
      cases this
     refine ⟨_,rfl,du,rfl,⟨_,SqL.of h6d⟩,zU (n:=rs'.length) (fun j ys H' => zy H6 H' ∧ ys = ((qs'.take j).map fun x => (hits p x (hps pl rw) : Int)).map V.int) ⟨fun _ _ e => e,rfl⟩ ?_ ?_ ?_ ?_⟩
     ·rintro j ys H' hj ⟨s7,_⟩
      exact ⟨_,.ref rs'[j],SqL.of (s7 _ _ h6d),by rw [List.getElem?_map,List.getElem?_eq_getElem hj]; rfl⟩
     ·rintro ys H' ⟨s7,_⟩
      exact ⟨_,SqL.of (s7 _ _ h6d),by rw [List.length_map]; exact Nat.le_refl _⟩
     ·rintro j y ys H7 H8 hj ⟨s7,rfl⟩ ⟨rfl,hy⟩
      obtain ⟨rb,rfl,hrb⟩:=zaj (hy _ (SqL.of (s7 _ _ h6d)))
      obtain ⟨qq,hqq,hat⟩:=Paired.get hT6 hrb
      have s58:=s6.trans s7
      refine gY ⟨_,rfl,_,rfl,_,rfl,c,tt,r,rb,p,k,pl,qq,rw,rfl,hc5.same s58,s58 _ _ h5r,hrl,s7 _ _ hat,by omega,by omega,co.rg,by omega,fun fl H9 hfl s9 h9 => ?_⟩
      refine ⟨fl,_,rfl,.inl (SqL.of h9),?_,s7.trans s9,?_⟩
      ·rw [List.length_map,List.length_map,List.length_take]; omega
      ·rw [List.length_map,zdn hrl,take_snoc hqq,List.map_append,List.map_append]; rfl
     ·rintro ys H7 D2 ⟨s7,rfl⟩ hD2
      rw [hlr,List.take_length]
      have v8:=ze (o:=.lst ((qs'.map fun x => (hits p x (hps pl rw) : Int)).map V.int)) hD2
      refine ⟨D2,_,rfl,SqL.of zb,fun e => hne (List.map_eq_nil_iff.mp e),fun M' hM1 hM2 => ?_⟩
      have s68:=s7.trans v8
      generalize upd H7 D2 (.lst ((qs'.map fun x => (hits p x (hps pl rw) : Int)).map V.int)) = H8 at v8 s68 ⊢
      have eM : M' = (M : Int):=by
       obtain ⟨x,hx1,hx2⟩:=hex
       have h3:=hM2 _ (List.mem_map.mpr ⟨x,(hm6 x).mpr ⟨hx1,by omega⟩,rfl⟩)
       obtain ⟨y,hy1,rfl⟩:=List.mem_map.mp hM1
       have h4:=hmo y ((hm6 y).mp hy1).1
       omega
      subst eM
      have h8d:=s68 _ _ h6d
      have s58:=s6.trans s68
      have hT8:=hT6.same s68
      refine ⟨_,rfl,_,rfl,du,rfl,⟨_,SqL.of h8d⟩,zU (n:=rs'.length) (fun j ys H' => zy H8 H' ∧ ∃ ws : List Addr,ys = ws.map V.ref ∧ ws.length ≤ j ∧ zaM H' ws ((qs'.take j).filter fun x => decide (hits p x (hps pl rw) = M))) ⟨fun _ _ e => e,[],rfl,Nat.le_refl _,.nil⟩ ?_ ?_ ?_ ?_⟩
      ·rintro j ys H' hj ⟨s9,_⟩
       exact ⟨_,.ref rs'[j],SqL.of (s9 _ _ h8d),by rw [List.getElem?_map,List.getElem?_eq_getElem hj]; rfl⟩
      ·rintro ys H' ⟨s9,_⟩
       exact ⟨_,SqL.of (s9 _ _ h8d),by rw [List.length_map]; exact Nat.le_refl _⟩
      ·rintro j y ys H9 Ha hj ⟨s9,ws,rfl,hwl,hws⟩ ⟨rfl,hy⟩
       obtain ⟨rb,rfl,hrb⟩:=zaj (hy _ (SqL.of (s9 _ _ h8d)))
       obtain ⟨qq,hqq,hat⟩:=Paired.get hT8 hrb
       have s59:=s58.trans s9
       refine ⟨_,rfl,_,rfl,_,rfl,c,tt,r,rb,p,k,pl,qq,rw,rfl,hc5.same s59,s59 _ _ h5r,hrl,s9 _ _ hat,by omega,by omega,co.rg,by omega,fun fl Hb hfl sb hb => ?_⟩
       refine ⟨fl,_,rfl,.inl (SqL.of hb),_,rfl,rfl,_,rfl,?_⟩
       have ef : ((zck p pl rw qq pl.length).map V.int).length = hits p qq (hps pl rw):=by rw [List.length_map]; exact zdn hrl
       rw [ef,zjA]
       have hsn : (qs'.take (j + 1)).filter (fun x => decide (hits p x (hps pl rw) = M)) = (qs'.take j).filter (fun x => decide (hits p x (hps pl rw) = M)) ++ [qq].filter (fun x => decide (hits p x (hps pl rw) = M)):=by rw [take_snoc hqq,List.filter_append]
       refine zaQ (fun h => ⟨_,rfl,?_,s9.trans sb,ws ++ [rb],by rw [List.map_append]; rfl,by rw [List.length_append]; exact Nat.succ_le_succ hwl,?_⟩) (fun h => ⟨s9.trans sb,ws,rfl,by omega,?_⟩)
       ·rw [List.length_map]; omega
       ·rw [hsn,List.filter_cons_of_pos (p:=fun x => decide (hits p x (hps pl rw) = M)) h]
        exact Paired.snoc (hws.same sb) ((s9.trans sb) _ _ hat)
       ·rw [hsn,List.filter_cons_of_neg (p:=fun x => decide (hits p x (hps pl rw) = M)) h,List.filter_nil,List.append_nil]
        exact hws.same sb
      ·rintro ys H9 D3 ⟨s9,ws,rfl,hwl,hws⟩ hD3
       rw [hlr,List.take_length] at hws
       have eqs : qs'.filter (fun x => decide (hits p x (hps pl rw) = M)) = qs:=ze7 (hR6.filter _) hR5 fun x => by
        rw [List.mem_filter,decide_eq_true_iff,hm6 x,hm5 x]
        constructor
        ·rintro ⟨⟨h1,_⟩,h2⟩; exact ⟨h1,h2⟩
        ·rintro ⟨h1,h2⟩; exact ⟨⟨h1,by omega⟩,h2⟩
       rw [eqs] at hws
       have va:=ze (o:=.lst (ws.map V.ref)) hD3
       have had : upd H9 D3 (.lst (ws.map V.ref)) D3 = some (.lst (ws.map V.ref)):=zb
       have hwsa:=hws.same va
       have s5a:=(s58.trans s9).trans va
       generalize upd H9 D3 (.lst (ws.map V.ref)) = Ha at va had hwsa s5a ⊢
       refine ⟨by show 2 ≤ sizeLine; omega,fun zd hzd => ?_⟩
       have vb:=ze (o:=.tup [.int (M : Int),.ref D3]) hzd
       have hbz : upd Ha zd (.tup [.int (M : Int),.ref D3]) zd = some (.tup [.int (M : Int),.ref D3]):=zb
       have s5b:=s5a.trans vb
       have hbd:=vb _ _ had
       have hwsb:=hwsa.same vb
       generalize upd Ha zd (.tup [.int (M : Int),.ref D3]) = Hb at vb hbz s5b hbd hwsb ⊢
       have hbz':=s5b _ _ h5z
       have hbl:=s5b _ _ h5l
       have hTb:=hT5.same s5b
       refine ⟨_,rfl,_,_,_,_,rfl,.tup hbz',rfl,true,rfl,zeH ⟨_,rfl,_,rfl,zeC hbz' hbz hbl hbd hTb hwsb ⟨_,rfl,zeH ⟨_,rfl,z,_,_,_,rfl,rfl,SqT.of hbz',rfl,M,rfl,_,rfl,zeH ?_⟩⟩⟩⟩
       have hlD : D3 ≠ l:=fun e => by
        have:=(s58.trans s9) _ _ h5l
        rw [← e,hD3] at this
        cases this
       have hlz : zd ≠ l:=fun e => by
        rw [e,hbl] at hbz
        cases hbz
       have hrs5 : rs.length ≤ 65536:=by rw [hT5.length]; exact hz5
       refine ⟨_,rfl,z,_,_,_,rfl,rfl,SqT.of hbz',rfl,.inl ⟨rfl,_,SqL.of hbl⟩,l,_,_,rfl,rfl,hbl,by rw [List.length_map]; omega,?_⟩
       have hTc : zaM (upd Hb l (.lst (rs.map V.ref ++ [.int 7]))) ws qs:=hwsb.put hbl
       have hcd : upd Hb l (.lst (rs.map V.ref ++ [.int 7])) D3 = some (.lst (ws.map V.ref)):=by rw [zp hlD]; exact hbd
       have hcz : upd Hb l (.lst (rs.map V.ref ++ [.int 7])) zd = some (.tup [.int (M : Int),.ref D3]):=by rw [zp hlz]; exact hbz
       have s2c : zy H2 (upd Hb l (.lst (rs.map V.ref ++ [.int 7]))):=zY (s25.trans s5b) ((v3.trans v4).free hl)
       generalize upd Hb l (.lst (rs.map V.ref ++ [.int 7])) = Hc at hTc hcd hcz s2c ⊢
       refine ⟨_,rfl,_,rfl,c,tt,r,p,k,pl,rw,rfl,hc2.same s2c,s2c _ _ h2r,hrl,by omega,co.pr,co.nd,co.rg,hrw,by omega,by omega,fun v2 Hd sd tv2 => ?_⟩
       rcases tv2 with ⟨h2,rfl⟩ | ⟨h2,z2,l2,rs2,qs2,M2,rfl,_,_,hdz,hdl,hTd,_,hRd,_,hex2,hmo2,hmd⟩
       ·omega
       have eM2 : M2 = M:=by
        obtain ⟨x,hx1,hx2⟩:=hex
        obtain ⟨y,hy1,hy2⟩:=hex2
        have h3:=hmo y hy1
        have h4:=hmo2 x hx1
        omega
       subst eM2
       have eq2 : qs2 = qs:=ze7 hRd hR5 fun x => (hmd x).trans (hm5 x).symm
       subst eq2
       refine ⟨_,rfl,zeC hdz (sd _ _ hcz) hdl (sd _ _ hcd) hTd (hTc.same sd) ⟨_,rfl,zeH ?_⟩⟩
       exact ⟨_,_,_,_,_,_,_,rfl,s2c.trans sd⟩
   ·rintro σ' H6 ⟨f4,f5,f6,f7,f8,f9,f10,rfl,s6⟩
    have hc6:=hc2.same s6
    have h6r:=s6 _ _ h2r
    refine ⟨by show 1 ≤ sizeLine; omega,fun l1 hl1 => ⟨_,rfl,r,_,rfl,.inl (SqL.of (ze hl1 _ _ h6r)),l1,_,_,rfl,rfl,zb,by rw [List.length_map]; omega,by rw [List.length_map]; omega,by show 1 * _ ≤ sizeLine; rw [List.length_map]; omega,fun fw hfw => ?_⟩⟩
    have u7:=ze (o:=.lst [V.non]) hl1
    have hfw6 : H6 fw = none:=u7.free hfw
    rw [List.length_map,Int.toNat_natCast,zkB,hrl]
    have s67 : zy H6 (upd (upd H6 l1 (.lst [V.non])) fw (.lst ((List.replicate pl.length (none : Option Int)).map enc))):=u7.trans (ze hfw)
    have h7f : upd (upd H6 l1 (.lst [V.non])) fw (.lst ((List.replicate pl.length (none : Option Int)).map enc)) fw = some (.lst ((zc5 pl.length 0).map enc)):=zb
    generalize upd (upd H6 l1 (.lst [V.non])) fw (.lst ((List.replicate pl.length (none : Option Int)).map enc)) = H7 at s67 h7f ⊢
    refine ⟨_,rfl,c,_,_,_,rfl,rfl,SqT.of (hc6.same s67).1,rfl,_,_,rfl,rfl,?_⟩
    refine ⟨_,rfl,by omega,by omega,?_⟩
    have ek : ((k : Int) - 1).toNat = k - 1:=by omega
    rw [ek]
    refine zaS (lo:=0) (n:=k - 1) (fun j σ H' => ∃ (g10 : Option V),σ = [some (.ref a),some (.int (0 + (i : Int))),some (.ref c),some (.ref r),f4,f5,f6,f7,f8,some (.ref fw),g10] ∧ zy H6 H' ∧ H' fw = some (.lst ((zc5 pl.length j).map enc))) ⟨_,rfl,s67,h7f⟩ ?_ ?_
    ·rintro j σ H8 hj ⟨g10,rfl,s8,h8f⟩
     refine ⟨_,rfl,_,rfl,fw,_,_,j,rfl,rfl,h8f,?_,?_⟩
     ·rw [Int.zero_add]
      refine zjR ?_
      rw [List.length_map]
      unfold zc5
      rw [List.length_append,List.length_replicate,List.length_replicate]
      omega
     ·exact ⟨_,rfl,zY s8 hfw6,by rw [zb,zjB (by omega)]⟩
    ·rintro σ H8 ⟨g10,rfl,s8,h8f⟩
     have s28:=s6.trans s8
     have hfl : (zc5 pl.length (k - 1)).length = pl.length:=by
      unfold zc5
      rw [List.length_append,List.length_replicate,List.length_replicate]
      omega
     refine ⟨_,rfl,_,rfl,c,tt,fw,p,k,pl,zc5 pl.length (k - 1),rfl,hc2.same s28,h8f,hfl,by omega,co.pr,co.nd,co.rg,fun z hz => ?_,by omega,by omega,fun v H9 s9 tv => ?_⟩
     ·unfold zc5 at hz
      rcases List.mem_append.mp hz with h | h
      ·have:=List.eq_of_mem_replicate h
       injection this with this
       omega
      ·have:=List.eq_of_mem_replicate h
       cases this
     have hcf : (hps pl (zc5 pl.length (k - 1))).length = k - 1:=by
      rw [zfb hfl]
      unfold zc5
      rw [List.filter_append,List.length_append,List.filter_eq_self.mpr (fun o ho => by rw [List.eq_of_mem_replicate ho]; rfl),List.filter_eq_nil_iff.mpr (fun o ho => by rw [List.eq_of_mem_replicate ho]; simp),List.length_replicate]
      rfl
     rcases tv with ⟨h1,rfl⟩ | ⟨h1,_⟩
     ·refine ⟨rfl,_,rfl,?_⟩
      refine zaQ (fun hh => absurd hh (by simp)) (fun _ => ?_)
      exact ⟨_,_,_,_,_,_,_,_,_,_,rfl,sA2.trans (s28.trans s9)⟩
     ·omega
  ·rintro σ H1 ⟨e1,e2,e3,e4,e5,e6,e7,e8,e9,e10,rfl,s1⟩
   exact q _
end
end My
end
section
set_option maxHeartbeats 3999000
namespace My
open PySem L2 PyProof.Rows
structure Dn (K : PySem.W.Frag) (x : Str) (st : Stmt) (f : Addr) (fd : FuncData) : Prop where
 a : PySem.W.nsIn K mainGlobals x = some (some (.ref f))
 f : Fun K x x st f fd
theorem zat {K : PySem.W.Frag} {x : Str} {st : Stmt} {f : Addr} {od an : Option Addr} {sl : Array (Option Value)} {oc kV dc pm cd ct : Value} (a : PySem.W.nsIn K mainGlobals x = some (some (.ref f))) (l : K.lookup f = some ⟨oc,od,.func (PySem.W.fnOf x x (zbi st) (zaN st) (zi st) .none kV dc pm an cd ct),sl⟩) (c : PySem.W.codeIn K cd x = true) (k : PySem.W.keepIn K (.ref f) = true) : Dn K x st f (PySem.W.fnOf x x (zbi st) (zaN st) (zi st) .none kV dc pm an cd ct):=⟨a,ziy l c k⟩
structure Dm (K : PySem.W.Frag) (C : Addr) (x q : Str) (st : Stmt) (f : Addr) (fd : FuncData) : Prop where
 a : PySem.W.findIn K (.ref C) x = some (some (.ref f))
 i : PySem.W.isFn K (.ref f) = true
 f : Fun K x q st f fd
theorem zlv {l : PySem.W.OpenLaw} {w : World} {K : PySem.W.Frag} {h : Heap} {mg : Str → Option Value} {fa fl A_SlipError A_TooFew A_NoCurve A_NoPaper A_NoPlace A_NoNumber A_Heard A_NotHeard A_NothingLeft A_NoText A_NoRow : Addr} (X : K.In h) (G : h.Ns mainGlobals mg) (hfa : mg "law" = some (.ref fa))
  {od an : Option Addr} {sl : Array (Option Value)} {oc kV dc pm cd ct : Value} (a_SlipError : PySem.W.nsIn K mainGlobals "SlipError" = some (some (.ref A_SlipError))) (a_TooFew : PySem.W.nsIn K mainGlobals "TooFew" = some (some (.ref A_TooFew))) (a_NoCurve : PySem.W.nsIn K mainGlobals "NoCurve" = some (some (.ref A_NoCurve))) (a_NoPaper : PySem.W.nsIn K mainGlobals "NoPaper" = some (some (.ref A_NoPaper))) (a_NoPlace : PySem.W.nsIn K mainGlobals "NoPlace" = some (some (.ref A_NoPlace))) (a_NoNumber : PySem.W.nsIn K mainGlobals "NoNumber" = some (some (.ref A_NoNumber))) (a_Heard : PySem.W.nsIn K mainGlobals "Heard" = some (some (.ref A_Heard))) (a_NotHeard : PySem.W.nsIn K mainGlobals "NotHeard" = some (some (.ref A_NotHeard))) (a_NothingLeft : PySem.W.nsIn K mainGlobals "NothingLeft" = some (some (.ref A_NothingLeft))) (a_NoText : PySem.W.nsIn K mainGlobals "NoText" = some (some (.ref A_NoText))) (a_NoRow : PySem.W.nsIn K mainGlobals "NoRow" = some (some (.ref A_NoRow))) (d_value_at : ∃ f fd,Dn K "value_at" zbJ f fd) (d_inverse : ∃ f fd,Dn K "inverse" zb4 f fd) (d_times_root : ∃ f fd,Dn K "times_root" zaP f fd) (d_bent : ∃ f fd,Dn K "bent" zdM f fd) (d_through : ∃ f fd,Dn K "through" zb5 f fd) (d_heard_points : ∃ f fd,Dn K "heard_points" zaw f fd) (d_fits : ∃ f fd,Dn K "fits" zdN f fd) (d_choices : ∃ f fd,Dn K "choices" zba f fd) (d_all_through : ∃ f fd,Dn K "all_through" zaC f fd) (d_nearest : ∃ f fd,Dn K "nearest" zaV f fd) (d_l_cell : ∃ f fd,Dn K "_law_cell" zcD f fd) (d_l_draws : ∃ f fd,Dn K "_law_draws" zb6 f fd) (d_l_whole : ∃ f fd,Dn K "_law_whole" zb7 f fd) (d_l_code : ∃ f fd,Dn K "_law_code" zbX f fd) (d_l_value : ∃ f fd,Dn K "_law_value" zb8 f fd) (d_l_through : ∃ f fd,Dn K "_law_through" zax f fd) (d_l_polynomial : ∃ f fd,Dn K "_law_polynomial" zay f fd) (d_l_row : ∃ f fd,Dn K "_law_row" zcE f fd) (d_l_fits : ∃ f fd,Dn K "_law_fits" zbv f fd) (d_l_choices : ∃ f fd,Dn K "_law_choices" zaL f fd) (d_l_all : ∃ f fd,Dn K "_law_all" zcF f fd) (d_l_near : ∃ f fd,Dn K "_law_near" za4 f fd) (d_l_word : ∃ f fd,Dn K "_law_word" zcG f fd) (d_l_told : ∃ f fd,Dn K "_law_told" zcH f fd)  (xi_TooFew : PySem.W.excIn K A_TooFew ziS "ValueError.__new__" = true) (k_TooFew_TooFew : PySem.W.kitOne K (.ref A_TooFew) (.ref A_TooFew) = some true) (k_TooFew_NoCurve : PySem.W.kitOne K (.ref A_TooFew) (.ref A_NoCurve) = some false) (k_TooFew_NoPaper : PySem.W.kitOne K (.ref A_TooFew) (.ref A_NoPaper) = some false) (k_TooFew_NoPlace : PySem.W.kitOne K (.ref A_TooFew) (.ref A_NoPlace) = some false) (k_TooFew_NoNumber : PySem.W.kitOne K (.ref A_TooFew) (.ref A_NoNumber) = some false) (k_TooFew_Heard : PySem.W.kitOne K (.ref A_TooFew) (.ref A_Heard) = some false) (k_TooFew_NotHeard : PySem.W.kitOne K (.ref A_TooFew) (.ref A_NotHeard) = some false) (k_TooFew_NothingLeft : PySem.W.kitOne K (.ref A_TooFew) (.ref A_NothingLeft) = some false) (k_TooFew_NoText : PySem.W.kitOne K (.ref A_TooFew) (.ref A_NoText) = some false) (k_TooFew_NoRow : PySem.W.kitOne K (.ref A_TooFew) (.ref A_NoRow) = some false) (v_TooFew : PySem.W.kitOne K (.ref A_TooFew) (.type "ValueError") = some true) (s_TooFew : PySem.W.kitCls K (.ref A_TooFew) (.ref A_SlipError) = some true) (e1_TooFew : PySem.W.findIn K (.ref A_TooFew) "__getattribute__" = some (some (.builtin "BaseException.__getattribute__"))) (e2_TooFew : PySem.W.findIn K (.ref A_TooFew) "__getattr__" = some none) (e3_TooFew : PySem.W.findIn K (.ref A_TooFew) "__class__" = some (some (.builtin "object.__class__"))) (e4_TooFew : PySem.W.mroIn K A_TooFew (.type "object") = some true) (e5_TooFew : PySem.W.mroIn K A_TooFew (.type "BaseException") = some true) (e6_TooFew : PySem.W.kitCls K (.ref A_TooFew) (.ref A_TooFew) = some true) (sb : PySem.W.mroIn K A_SlipError (.type "BaseException") = some true)
  (al : PySem.W.nsIn K mainGlobals "law" = some (some (.ref fl))) (ll : K.lookup fl = some ⟨oc,od,.func (PySem.W.fnOf "law" "law" (zbi zbw) (zaN zbw) (zi zbw) .none kV dc pm an cd ct),sl⟩) (cl : PySem.W.codeIn K cd "law" = true) (kl : PySem.W.keepIn K (.ref fl) = true) (z_len : PySem.W.nsIn K mainGlobals "len" = some none) (z_range : PySem.W.nsIn K mainGlobals "range" = some none) (z_list : PySem.W.nsIn K mainGlobals "list" = some none) (z_tuple : PySem.W.nsIn K mainGlobals "tuple" = some none) (z_min : PySem.W.nsIn K mainGlobals "min" = some none) (z_max : PySem.W.nsIn K mainGlobals "max" = some none) (z_int : PySem.W.nsIn K mainGlobals "int" = some none) (z_bool : PySem.W.nsIn K mainGlobals "bool" = some none) (z_isinstance : PySem.W.nsIn K mainGlobals "isinstance" = some none) (z_zip : PySem.W.nsIn K mainGlobals "zip" = some none) (z_enumerate : PySem.W.nsIn K mainGlobals "enumerate" = some none) (z_reversed : PySem.W.nsIn K mainGlobals "reversed" = some none) (z_sorted : PySem.W.nsIn K mainGlobals "sorted" = some none) (z_ValueError : PySem.W.nsIn K mainGlobals "ValueError" = some none) :
  ∃ fd : FuncData,(∀ (s : Shared) (v : Value),BindsTo s fd ⟨[v],[]⟩ [("script",v)]) ∧ ∀ base : Heap,K.In base → base.Ns mainGlobals mg → FnOk l.prog w K mg base CX0 9 fa fd ["script"] (zeT K):=by
 cases hfa.symm.trans (PySem.W.mg_of X G al)
 obtain ⟨f_value_at,fd_value_at,D_value_at⟩:=d_value_at
 have b_value_at:=D_value_at.f.binds (ps:=["p","polynomial","x"]) fun _ _ _ _ _ _ us hl => match us,hl with | [_,_,_],_ => rfl
 obtain ⟨f_inverse,fd_inverse,D_inverse⟩:=d_inverse
 have b_inverse:=D_inverse.f.binds (ps:=["p","number"]) fun _ _ _ _ _ _ us hl => match us,hl with | [_,_],_ => rfl
 obtain ⟨f_times_root,fd_times_root,D_times_root⟩:=d_times_root
 have b_times_root:=D_times_root.f.binds (ps:=["p","polynomial","root"]) fun _ _ _ _ _ _ us hl => match us,hl with | [_,_,_],_ => rfl
 obtain ⟨f_bent,fd_bent,D_bent⟩:=d_bent
 have b_bent:=D_bent.f.binds (ps:=["p","polynomial","vanishing","point"]) fun _ _ _ _ _ _ us hl => match us,hl with | [_,_,_,_],_ => rfl
 obtain ⟨f_through,fd_through,D_through⟩:=d_through
 have b_through:=D_through.f.binds (ps:=["p","points"]) fun _ _ _ _ _ _ us hl => match us,hl with | [_,_],_ => rfl
 obtain ⟨f_heard_points,fd_heard_points,D_heard_points⟩:=d_heard_points
 have b_heard_points:=D_heard_points.f.binds (ps:=["code","row"]) fun _ _ _ _ _ _ us hl => match us,hl with | [_,_],_ => rfl
 obtain ⟨f_fits,fd_fits,D_fits⟩:=d_fits
 have b_fits:=D_fits.f.binds (ps:=["code","row","polynomial"]) fun _ _ _ _ _ _ us hl => match us,hl with | [_,_,_],_ => rfl
 obtain ⟨f_choices,fd_choices,D_choices⟩:=d_choices
 have b_choices:=D_choices.f.binds (ps:=["things","many"]) fun _ _ _ _ _ _ us hl => match us,hl with | [_,_],_ => rfl
 obtain ⟨f_all_through,fd_all_through,D_all_through⟩:=d_all_through
 have b_all_through:=D_all_through.f.binds (ps:=["code","points"]) fun _ _ _ _ _ _ us hl => match us,hl with | [_,_],_ => rfl
 obtain ⟨f_nearest,fd_nearest,D_nearest⟩:=d_nearest
 have b_nearest:=D_nearest.f.binds (ps:=["code","row"]) fun _ _ _ _ _ _ us hl => match us,hl with | [_,_],_ => rfl
 obtain ⟨f_l_cell,fd_l_cell,D_l_cell⟩:=d_l_cell
 have b_l_cell:=D_l_cell.f.binds (ps:=["script","k"]) fun _ _ _ _ _ _ us hl => match us,hl with | [_,_],_ => rfl
 obtain ⟨f_l_draws,fd_l_draws,D_l_draws⟩:=d_l_draws
 have b_l_draws:=D_l_draws.f.binds (ps:=["script","k","many","base"]) fun _ _ _ _ _ _ us hl => match us,hl with | [_,_,_,_],_ => rfl
 obtain ⟨f_l_whole,fd_l_whole,D_l_whole⟩:=d_l_whole
 have b_l_whole:=D_l_whole.f.binds (ps:=["found"]) fun _ _ _ _ _ _ us hl => match us,hl with | [_],_ => rfl
 obtain ⟨f_l_code,fd_l_code,D_l_code⟩:=d_l_code
 have b_l_code:=D_l_code.f.binds (ps:=["script","at","most_k","most_n"]) fun _ _ _ _ _ _ us hl => match us,hl with | [_,_,_,_],_ => rfl
 obtain ⟨f_l_value,fd_l_value,D_l_value⟩:=d_l_value
 have b_l_value:=D_l_value.f.binds (ps:=["p","polynomial","x"]) fun _ _ _ _ _ _ us hl => match us,hl with | [_,_,_],_ => rfl
 obtain ⟨f_l_through,fd_l_through,D_l_through⟩:=d_l_through
 have b_l_through:=D_l_through.f.binds (ps:=["p","points"]) fun _ _ _ _ _ _ us hl => match us,hl with | [_,_],_ => rfl
 obtain ⟨f_l_polynomial,fd_l_polynomial,D_l_polynomial⟩:=d_l_polynomial
 have b_l_polynomial:=D_l_polynomial.f.binds (ps:=["draws","p","k"]) fun _ _ _ _ _ _ us hl => match us,hl with | [_,_,_],_ => rfl
 obtain ⟨f_l_row,fd_l_row,D_l_row⟩:=d_l_row
 have b_l_row:=D_l_row.f.binds (ps:=["script","at","code"]) fun _ _ _ _ _ _ us hl => match us,hl with | [_,_,_],_ => rfl
 obtain ⟨f_l_fits,fd_l_fits,D_l_fits⟩:=d_l_fits
 have b_l_fits:=D_l_fits.f.binds (ps:=["code","row","polynomial"]) fun _ _ _ _ _ _ us hl => match us,hl with | [_,_,_],_ => rfl
 obtain ⟨f_l_choices,fd_l_choices,D_l_choices⟩:=d_l_choices
 have b_l_choices:=D_l_choices.f.binds (ps:=["some","many"]) fun _ _ _ _ _ _ us hl => match us,hl with | [_,_],_ => rfl
 obtain ⟨f_l_all,fd_l_all,D_l_all⟩:=d_l_all
 have b_l_all:=D_l_all.f.binds (ps:=["p","k"]) fun _ _ _ _ _ _ us hl => match us,hl with | [_,_],_ => rfl
 obtain ⟨f_l_near,fd_l_near,D_l_near⟩:=d_l_near
 have b_l_near:=D_l_near.f.binds (ps:=["code","row","t"]) fun _ _ _ _ _ _ us hl => match us,hl with | [_,_,_],_ => rfl
 obtain ⟨f_l_word,fd_l_word,D_l_word⟩:=d_l_word
 have b_l_word:=D_l_word.f.binds (ps:=["e"]) fun _ _ _ _ _ _ us hl => match us,hl with | [_],_ => rfl
 obtain ⟨f_l_told,fd_l_told,D_l_told⟩:=d_l_told
 have b_l_told:=D_l_told.f.binds (ps:=["code","row"]) fun _ _ _ _ _ _ us hl => match us,hl with | [_,_],_ => rfl
 let t : Adr:=⟨A_SlipError,A_TooFew,A_NoCurve,A_NoPaper,A_NoPlace,A_NoNumber,A_Heard,A_NotHeard,A_NothingLeft,A_NoText,A_NoRow,f_value_at,f_inverse,f_times_root,f_bent,f_through,f_heard_points,f_fits,f_choices,f_all_through,f_nearest,f_l_cell,f_l_draws,f_l_whole,f_l_code,f_l_value,f_l_through,f_l_polynomial,f_l_row,f_l_fits,f_l_choices,f_l_all,f_l_near,f_l_word,f_l_told,fa⟩
 have T : Txt K mg t:=⟨PySem.W.mg_none_of X G z_len,PySem.W.mg_none_of X G z_range,PySem.W.mg_none_of X G z_list,PySem.W.mg_none_of X G z_tuple,PySem.W.mg_none_of X G z_min,PySem.W.mg_none_of X G z_max,PySem.W.mg_none_of X G z_int,PySem.W.mg_none_of X G z_bool,PySem.W.mg_none_of X G z_isinstance,PySem.W.mg_none_of X G z_zip,PySem.W.mg_none_of X G z_enumerate,PySem.W.mg_none_of X G z_reversed,PySem.W.mg_none_of X G z_sorted,PySem.W.mg_none_of X G z_ValueError,PySem.W.mg_of X G a_SlipError,PySem.W.mg_of X G a_TooFew,PySem.W.mg_of X G a_NoCurve,PySem.W.mg_of X G a_NoPaper,PySem.W.mg_of X G a_NoPlace,PySem.W.mg_of X G a_NoNumber,PySem.W.mg_of X G a_Heard,PySem.W.mg_of X G a_NotHeard,PySem.W.mg_of X G a_NothingLeft,PySem.W.mg_of X G a_NoText,PySem.W.mg_of X G a_NoRow,xi_TooFew,⟨k_TooFew_TooFew,k_TooFew_NoCurve,k_TooFew_NoPaper,k_TooFew_NoPlace,k_TooFew_NoNumber,k_TooFew_Heard,k_TooFew_NotHeard,k_TooFew_NothingLeft,k_TooFew_NoText,k_TooFew_NoRow,v_TooFew,⟨e1_TooFew,e2_TooFew,e3_TooFew,e4_TooFew,e5_TooFew,e6_TooFew⟩,s_TooFew⟩,sb,PySem.W.mg_of X G D_value_at.a,PySem.W.mg_of X G D_inverse.a,PySem.W.mg_of X G D_times_root.a,PySem.W.mg_of X G D_bent.a,PySem.W.mg_of X G D_through.a,PySem.W.mg_of X G D_heard_points.a,PySem.W.mg_of X G D_fits.a,PySem.W.mg_of X G D_choices.a,PySem.W.mg_of X G D_all_through.a,PySem.W.mg_of X G D_nearest.a,PySem.W.mg_of X G D_l_cell.a,PySem.W.mg_of X G D_l_draws.a,PySem.W.mg_of X G D_l_whole.a,PySem.W.mg_of X G D_l_code.a,PySem.W.mg_of X G D_l_value.a,PySem.W.mg_of X G D_l_through.a,PySem.W.mg_of X G D_l_polynomial.a,PySem.W.mg_of X G D_l_row.a,PySem.W.mg_of X G D_l_fits.a,PySem.W.mg_of X G D_l_choices.a,PySem.W.mg_of X G D_l_all.a,PySem.W.mg_of X G D_l_near.a,PySem.W.mg_of X G D_l_word.a,PySem.W.mg_of X G D_l_told.a,⟨_,D_value_at.f,b_value_at⟩,⟨_,D_inverse.f,b_inverse⟩,⟨_,D_times_root.f,b_times_root⟩,⟨_,D_bent.f,b_bent⟩,⟨_,D_through.f,b_through⟩,⟨_,D_heard_points.f,b_heard_points⟩,⟨_,D_fits.f,b_fits⟩,⟨_,D_choices.f,b_choices⟩,⟨_,D_all_through.f,b_all_through⟩,⟨_,D_nearest.f,b_nearest⟩,⟨_,D_l_cell.f,b_l_cell⟩,⟨_,D_l_draws.f,b_l_draws⟩,⟨_,D_l_whole.f,b_l_whole⟩,⟨_,D_l_code.f,b_l_code⟩,⟨_,D_l_value.f,b_l_value⟩,⟨_,D_l_through.f,b_l_through⟩,⟨_,D_l_polynomial.f,b_l_polynomial⟩,⟨_,D_l_row.f,b_l_row⟩,⟨_,D_l_fits.f,b_l_fits⟩,⟨_,D_l_choices.f,b_l_choices⟩,⟨_,D_l_all.f,b_l_all⟩,⟨_,D_l_near.f,b_l_near⟩,⟨_,D_l_word.f,b_l_word⟩,⟨_,D_l_told.f,b_l_told⟩⟩
 have FL:=ziy (st:=zbw) ll cl kl
 exact ⟨PySem.W.fnOf "law" "law" (zbi zbw) (zaN zbw) (zi zbw) .none kV dc pm an cd ct,fun s v => .of_eq rfl,fun base _ _ => zlu (t:=t) T FL⟩
theorem walk {l : PySem.W.OpenLaw} {q : Program} {loose : List Str} {XP : (Str → Option Value) → Heap → Prop} {YP : World → Heap → Prop} {d : DefRec} {K : Params → PySem.W.Frag} (hn : l.most = some 63) (hdf : d.params.defaults = []) (hY : ∀ (w : World) (h : Heap),YP w h → (K w.params).In h)
  (F : ∀ (w : World) (mg : Str → Option Value) (fa : Addr) (h : Heap),(K w.params).In h → h.Ns mainGlobals mg → mg d.name = some (.ref fa) → ∃ fd : FuncData,(∀ (s : Shared) (u : Value),BindsTo s fd ⟨[u],[]⟩ [("script",u)]) ∧ ∀ base : Heap,(K w.params).In base → base.Ns mainGlobals mg → FnOk l.prog w (K w.params) mg base CX0 9 fa fd ["script"] (zeT (K w.params))) : PySem.W.WalkO q loose XP YP l.row.toRowW d [] (fun f vs => PySem.call f vs) :=
 L2.zjL (n:=63) (k:=9) (x:="script") (CX:=fun _ => CX0) (sp:=fun w => zeT (K w.params)) hn (by decide) hdf ⟨rfl,by decide,by decide⟩ hY F (fun _ _ a ns hl _ hS => ⟨a,ns,rfl,hS,hl,fun _ => rfl⟩) fun _ _ _ _ _ z => z
end My
namespace PySem.W.Fast
def tw7728749289200217157 : Unit:=()
def tw7656674700965972112 : Unit:=()
def tw14834905786016508864 : Unit:=()
def tw15575178212712580681 : Unit:=()
def tw11839097581629888228 : Unit:=()
def tw17002882237374736712 : Unit:=()
def tw45927248041784063 : Unit:=()
def tw14881380700128186394 : Unit:=()
def tw1198496881158258692 : Unit:=()
def tw2166364442087512286 : Unit:=()
def tw15923605933555169443 : Unit:=()
def tw3608673143234630214 : Unit:=()
def tw17520280286440857161 : Unit:=()
def tw8540048781636677657 : Unit:=()
def tw17288852617096280657 : Unit:=()
def tw16521275706165664764 : Unit:=()
def tw3928259284995905246 : Unit:=()
def tw13018149693244371442 : Unit:=()
def tw18269470335928824361 : Unit:=()
def tw5171584138624032777 : Unit:=()
def tw12352499468716064995 : Unit:=()
def tw5470561649311997543 : Unit:=()
def tw11124656588815460433 : Unit:=()
def tw4136435349982090314 : Unit:=()
def tw10460860973510414729 : Unit:=()
def tw16240509401379714501 : Unit:=()
def tw10645087224821540394 : Unit:=()
def tw5471417683462215600 : Unit:=()
def tw16955612263668960559 : Unit:=()
def tw17984980972349234914 : Unit:=()
def tw6462041644952520708 : Unit:=()
def tw5031937197289369854 : Unit:=()
def tw15277027362089314085 : Unit:=()
def tw1976541900493774902 : Unit:=()
def tw6076902530533015848 : Unit:=()
def tw13414207473288610097 : Unit:=()
def tw11203124925769456162 : Unit:=()
def tw6782282307744275925 : Unit:=()
def tw3239148369491721630 : Unit:=()
def tw14341400214883355994 : Unit:=()
def tw703139838264738119 : Unit:=()
def tw1174492939725772983 : Unit:=()
def tw8485734019040697961 : Unit:=()
def tw13145245853904653389 : Unit:=()
def tw5734055081364470180 : Unit:=()
def tw5915761870066639185 : Unit:=()
def tw8677999152786286788 : Unit:=()
def tw4613834592394340196 : Unit:=()
def tw4549583785860309275 : Unit:=()
def tw4318029078254620254 : Unit:=()
def tw2292787733128978983 : Unit:=()
def tw3329071952287201620 : Unit:=()
def tw10150405090128502306 : Unit:=()
def tw3132082565098633244 : Unit:=()
def tw8451215070206037571 : Unit:=()
def tw11227516601022050715 : Unit:=()
def tw9075606881037261560 : Unit:=()
def tw13564573955186500315 : Unit:=()
def tw1410583513906936259 : Unit:=()
def tw12141037663166294942 : Unit:=()
def tw10396816050016849277 : Unit:=()
def tw16229036139498737707 : Unit:=()
def tw15131304718822312761 : Unit:=()
def tw4811726198793725361 : Unit:=()
def tw16152765454704202687 : Unit:=()
def tw1989140795714214396 : Unit:=()
def tw5370782718339871454 : Unit:=()
def tw191434638938786527 : Unit:=()
def tw8687645685010726345 : Unit:=()
def tw12769908675465885799 : Unit:=()
def tw9022438403297183262 : Unit:=()
def tw6115338149224072477 : Unit:=()
end PySem.W.Fast
open PySem PySem.W
open PyProof.Rows
set_option maxHeartbeats 0 in
theorem PySem.Challenge.cw_slipcurve_k05_nearest_holds : PySem.Challenge.rw_slipcurve_k05_nearest.Holds := by
 w_on; o_law; k_head; (case hw => w_witness2)
 k_fill
 refine My.walk (l:=PySem.Challenge.rw_slipcurve_k05_nearest) rfl rfl (fun w h Y => PySem.W.kIn_of Y) ?F
 case F =>
  intro w mg fa h KX G hmg
  refine' My.zlv KX G hmg ?a_SlipError ?a_TooFew ?a_NoCurve ?a_NoPaper ?a_NoPlace ?a_NoNumber ?a_Heard ?a_NotHeard ?a_NothingLeft ?a_NoText ?a_NoRow ⟨_,_,My.zat ?da_value_at ?dl_value_at ?dc_value_at ?dk_value_at⟩ ⟨_,_,My.zat ?da_inverse ?dl_inverse ?dc_inverse ?dk_inverse⟩ ⟨_,_,My.zat ?da_times_root ?dl_times_root ?dc_times_root ?dk_times_root⟩ ⟨_,_,My.zat ?da_bent ?dl_bent ?dc_bent ?dk_bent⟩ ⟨_,_,My.zat ?da_through ?dl_through ?dc_through ?dk_through⟩ ⟨_,_,My.zat ?da_heard_points ?dl_heard_points ?dc_heard_points ?dk_heard_points⟩ ⟨_,_,My.zat ?da_fits ?dl_fits ?dc_fits ?dk_fits⟩ ⟨_,_,My.zat ?da_choices ?dl_choices ?dc_choices ?dk_choices⟩ ⟨_,_,My.zat ?da_all_through ?dl_all_through ?dc_all_through ?dk_all_through⟩ ⟨_,_,My.zat ?da_nearest ?dl_nearest ?dc_nearest ?dk_nearest⟩ ⟨_,_,My.zat ?da_l_cell ?dl_l_cell ?dc_l_cell ?dk_l_cell⟩ ⟨_,_,My.zat ?da_l_draws ?dl_l_draws ?dc_l_draws ?dk_l_draws⟩ ⟨_,_,My.zat ?da_l_whole ?dl_l_whole ?dc_l_whole ?dk_l_whole⟩ ⟨_,_,My.zat ?da_l_code ?dl_l_code ?dc_l_code ?dk_l_code⟩ ⟨_,_,My.zat ?da_l_value ?dl_l_value ?dc_l_value ?dk_l_value⟩ ⟨_,_,My.zat ?da_l_through ?dl_l_through ?dc_l_through ?dk_l_through⟩ ⟨_,_,My.zat ?da_l_polynomial ?dl_l_polynomial ?dc_l_polynomial ?dk_l_polynomial⟩ ⟨_,_,My.zat ?da_l_row ?dl_l_row ?dc_l_row ?dk_l_row⟩ ⟨_,_,My.zat ?da_l_fits ?dl_l_fits ?dc_l_fits ?dk_l_fits⟩ ⟨_,_,My.zat ?da_l_choices ?dl_l_choices ?dc_l_choices ?dk_l_choices⟩ ⟨_,_,My.zat ?da_l_all ?dl_l_all ?dc_l_all ?dk_l_all⟩ ⟨_,_,My.zat ?da_l_near ?dl_l_near ?dc_l_near ?dk_l_near⟩ ⟨_,_,My.zat ?da_l_word ?dl_l_word ?dc_l_word ?dk_l_word⟩ ⟨_,_,My.zat ?da_l_told ?dl_l_told ?dc_l_told ?dk_l_told⟩ ?xi_TooFew ?k_TooFew_TooFew ?k_TooFew_NoCurve ?k_TooFew_NoPaper ?k_TooFew_NoPlace ?k_TooFew_NoNumber ?k_TooFew_Heard ?k_TooFew_NotHeard ?k_TooFew_NothingLeft ?k_TooFew_NoText ?k_TooFew_NoRow ?v_TooFew ?s_TooFew ?e1_TooFew ?e2_TooFew ?e3_TooFew ?e4_TooFew ?e5_TooFew ?e6_TooFew ?sb ?al ?ll ?cl ?kl ?z_len ?z_range ?z_list ?z_tuple ?z_min ?z_max ?z_int ?z_bool ?z_isinstance ?z_zip ?z_enumerate ?z_reversed ?z_sorted ?z_ValueError
  (case a_SlipError => k_is)
  (case a_TooFew => k_is)
  (case a_NoCurve => k_is)
  (case a_NoPaper => k_is)
  (case a_NoPlace => k_is)
  (case a_NoNumber => k_is)
  (case a_Heard => k_is)
  (case a_NotHeard => k_is)
  (case a_NothingLeft => k_is)
  (case a_NoText => k_is)
  (case a_NoRow => k_is)
  (case da_value_at => k_is)
  (case dl_value_at => k_is)
  (case dc_value_at => k_is)
  (case dk_value_at => k_is)
  (case da_inverse => k_is)
  (case dl_inverse => k_is)
  (case dc_inverse => k_is)
  (case dk_inverse => k_is)
  (case da_times_root => k_is)
  (case dl_times_root => k_is)
  (case dc_times_root => k_is)
  (case dk_times_root => k_is)
  (case da_bent => k_is)
  (case dl_bent => k_is)
  (case dc_bent => k_is)
  (case dk_bent => k_is)
  (case da_through => k_is)
  (case dl_through => k_is)
  (case dc_through => k_is)
  (case dk_through => k_is)
  (case da_heard_points => k_is)
  (case dl_heard_points => k_is)
  (case dc_heard_points => k_is)
  (case dk_heard_points => k_is)
  (case da_fits => k_is)
  (case dl_fits => k_is)
  (case dc_fits => k_is)
  (case dk_fits => k_is)
  (case da_choices => k_is)
  (case dl_choices => k_is)
  (case dc_choices => k_is)
  (case dk_choices => k_is)
  (case da_all_through => k_is)
  (case dl_all_through => k_is)
  (case dc_all_through => k_is)
  (case dk_all_through => k_is)
  (case da_nearest => k_is)
  (case dl_nearest => k_is)
  (case dc_nearest => k_is)
  (case dk_nearest => k_is)
  (case da_l_cell => k_is)
  (case dl_l_cell => k_is)
  (case dc_l_cell => k_is)
  (case dk_l_cell => k_is)
  (case da_l_draws => k_is)
  (case dl_l_draws => k_is)
  (case dc_l_draws => k_is)
  (case dk_l_draws => k_is)
  (case da_l_whole => k_is)
  (case dl_l_whole => k_is)
  (case dc_l_whole => k_is)
  (case dk_l_whole => k_is)
  (case da_l_code => k_is)
  (case dl_l_code => k_is)
  (case dc_l_code => k_is)
  (case dk_l_code => k_is)
  (case da_l_value => k_is)
  (case dl_l_value => k_is)
  (case dc_l_value => k_is)
  (case dk_l_value => k_is)
  (case da_l_through => k_is)
  (case dl_l_through => k_is)
  (case dc_l_through => k_is)
  (case dk_l_through => k_is)
  (case da_l_polynomial => k_is)
  (case dl_l_polynomial => k_is)
  (case dc_l_polynomial => k_is)
  (case dk_l_polynomial => k_is)
  (case da_l_row => k_is)
  (case dl_l_row => k_is)
  (case dc_l_row => k_is)
  (case dk_l_row => k_is)
  (case da_l_fits => k_is)
  (case dl_l_fits => k_is)
  (case dc_l_fits => k_is)
  (case dk_l_fits => k_is)
  (case da_l_choices => k_is)
  (case dl_l_choices => k_is)
  (case dc_l_choices => k_is)
  (case dk_l_choices => k_is)
  (case da_l_all => k_is)
  (case dl_l_all => k_is)
  (case dc_l_all => k_is)
  (case dk_l_all => k_is)
  (case da_l_near => k_is)
  (case dl_l_near => k_is)
  (case dc_l_near => k_is)
  (case dk_l_near => k_is)
  (case da_l_word => k_is)
  (case dl_l_word => k_is)
  (case dc_l_word => k_is)
  (case dk_l_word => k_is)
  (case da_l_told => k_is)
  (case dl_l_told => k_is)
  (case dc_l_told => k_is)
  (case dk_l_told => k_is)
  (case xi_TooFew => with_unfolding_all rfl)
  (case k_TooFew_TooFew => rfl)
  (case k_TooFew_NoCurve => rfl)
  (case k_TooFew_NoPaper => rfl)
  (case k_TooFew_NoPlace => rfl)
  (case k_TooFew_NoNumber => rfl)
  (case k_TooFew_Heard => rfl)
  (case k_TooFew_NotHeard => rfl)
  (case k_TooFew_NothingLeft => rfl)
  (case k_TooFew_NoText => rfl)
  (case k_TooFew_NoRow => rfl)
  (case v_TooFew => rfl)
  (case s_TooFew => rfl)
  (case e1_TooFew => k_is)
  (case e2_TooFew => k_is)
  (case e3_TooFew => k_is)
  (case e4_TooFew => k_is)
  (case e5_TooFew => k_is)
  (case e6_TooFew => rfl)
  (case sb => k_is)
  (case al => k_is)
  (case ll => k_is)
  (case cl => k_is)
  (case kl => k_is)
  (case z_len => k_is)
  (case z_range => k_is)
  (case z_list => k_is)
  (case z_tuple => k_is)
  (case z_min => k_is)
  (case z_max => k_is)
  (case z_int => k_is)
  (case z_bool => k_is)
  (case z_isinstance => k_is)
  (case z_zip => k_is)
  (case z_enumerate => k_is)
  (case z_reversed => k_is)
  (case z_sorted => k_is)
  (case z_ValueError => k_is)
#print axioms PySem.Challenge.cw_slipcurve_k05_nearest_holds
end