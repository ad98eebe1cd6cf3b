import PyProof.Rows.All
import Wide.All
import OpenK.AllK
import Wide.FinOn
import Lean
import PyProof.EqAt
import PyProof.EqKinds
import PyProof.TupleCall
import PySem.Challenge.RW_rollmend_k18_refused
set_option genSizeOf false
-- CHANGE: your row's module here, as the last of these rows
set_option Elab.async false
set_option linter.all false
set_option maxRecDepth 100000
namespace L2
open PySem PySem.Spec PyProof.Rows

noncomputable abbrev Key := Sum Int Str
noncomputable def keyIs : Key → Value → Bool
 | .inl k, v => Value.isInt k v
 | .inr x, v => Value.isStrOf x v
noncomputable def keyH (w : World) : Key → Int
 | .inl k => hashInt k
 | .inr x => hashStr w x
theorem keyIs_shape : ∀ {k : Key} {v : Value}, keyIs k v = true → (∃ i t, k = Sum.inl i ∧ v = Value.int i t) ∨ (∃ x t, k = Sum.inr x ∧ v = Value.str x t)
 | .inl i, v, h => by
  obtain ⟨t, e⟩ := Value.isInt_shape (k := i) (v := v) h
  exact .inl ⟨i, t, rfl, e⟩
 | .inr x, v, h => by
  obtain ⟨t, e⟩ := Value.isStrOf_shape (x := x) (v := v) h
  exact .inr ⟨x, t, rfl, e⟩
theorem keyIs_int (i : Int) (t : Tok) : keyIs (.inl i) (.int i t) = true := by simp [keyIs, Value.isInt]
theorem keyIs_str (x : Str) (t : Tok) : keyIs (.inr x) (.str x t) = true := by simp [keyIs, Value.isStrOf]
theorem key_ll (a b : Int) : decide ((Sum.inl a : Key) = Sum.inl b) = (a == b) := by
 by_cases e : a = b
 ·subst e; simp
 ·have h : ¬ (Sum.inl a : Key) = Sum.inl b := fun q => e (Sum.inl.inj q)
  rw [decide_eq_false h]
  exact (beq_eq_false_iff_ne.mpr e).symm
theorem key_rr (a b : Str) : decide ((Sum.inr a : Key) = Sum.inr b) = decide (a = b) := by
 by_cases e : a = b
 ·subst e; simp
 ·have h : ¬ (Sum.inr a : Key) = Sum.inr b := fun q => e (Sum.inr.inj q)
  rw [decide_eq_false h, decide_eq_false e]
theorem key_lr (a : Int) (b : Str) : decide ((Sum.inl a : Key) = Sum.inr b) = false := decide_eq_false (fun q => nomatch q)
theorem key_rl (a : Str) (b : Int) : decide ((Sum.inr a : Key) = Sum.inl b) = false := decide_eq_false (fun q => nomatch q)

noncomputable def mixKind (prog : Program) (w : World) : PySem.KeyKind prog w Key where
 is := keyIs
 hash := keyH w
 inj := fun v a b ha hb => by
  rcases keyIs_shape ha with ⟨i, t, rfl, rfl⟩ | ⟨x, t, rfl, rfl⟩
  ·rcases keyIs_shape hb with ⟨j, u, rfl, e⟩ | ⟨y, u, rfl, e⟩
   ·injection e with e1 _; rw [e1]
   ·exact nomatch e
  ·rcases keyIs_shape hb with ⟨j, u, rfl, e⟩ | ⟨y, u, rfl, e⟩
   ·exact nomatch e
   ·injection e with e1 _; rw [e1]
 byValue := fun k v h => by
  rcases keyIs_shape h with ⟨i, t, rfl, rfl⟩ | ⟨x, t, rfl, rfl⟩ <;> rfl
 pyHash := fun hv h => by
  rcases keyIs_shape hv with ⟨i, t, rfl, rfl⟩ | ⟨x, t, rfl, rfl⟩
  ·exact wpAny_pyHash_int h
  ·exact wpAny_pyHash_str h
 eqBool := fun hu hv h => by
  rcases keyIs_shape hu with ⟨i, t, rfl, rfl⟩ | ⟨x, t, rfl, rfl⟩
  ·rcases keyIs_shape hv with ⟨j, u, rfl, rfl⟩ | ⟨y, u, rfl, rfl⟩
   ·rw [key_ll] at h; exact wpAny_eqBool_int h
   ·rw [key_lr] at h; exact SeqAt.EqAt.int_str i t y u _ _ _ _ h
  ·rcases keyIs_shape hv with ⟨j, u, rfl, rfl⟩ | ⟨y, u, rfl, rfl⟩
   ·rw [key_rl] at h; exact SeqAt.EqAt.str_int x t j u _ _ _ _ h
   ·rw [key_rr] at h; exact wpAny_eqBool_str h
 «strs» := fun k x t v h => by
  rcases keyIs_shape h with ⟨i, u, rfl, e⟩ | ⟨y, u, rfl, e⟩
  ·exact nomatch e
  ·injection e with e1 _
   subst e1
   cases v <;> rfl

theorem mixKind_int (prog : Program) (w : World) (i : Int) (t : Tok) : (mixKind prog w).is (.inl i) (.int i t) = true := keyIs_int i t
theorem mixKind_str (prog : Program) (w : World) (x : Str) (t : Tok) : (mixKind prog w).is (.inr x) (.str x t) = true := keyIs_str x t
end L2

namespace L2
open PySem PySem.Spec PyProof.Rows

inductive V where
 | non | bl (b : Bool) | int (i : Int) | str (x : Str) | byt (b : Array UInt8) | flt (b : UInt64) | ref (a : Addr) | ty (n : String)
 deriving DecidableEq

noncomputable def RelV : V → Value → Prop
 | .non, u => u = Value.none
 | .bl b, u => u = Value.bool b
 | .int i, u => ∃ t, u = Value.int i t
 | .str x, u => ∃ t, u = Value.str x t
 | .byt b, u => ∃ t, u = Value.bytes b t
 | .flt b, u => ∃ t, u = Value.float b t
 | .ref a, u => u = Value.ref a
 | .ty n, u => u = Value.type n

noncomputable abbrev Vals : List V → List Value → Prop := Paired RelV
theorem Vals.length {xs : List V} {us : List Value} (r : Vals xs us) : xs.length = us.length := Paired.length r
theorem Vals.get : ∀ {xs : List V} {us : List Value} {i : Nat} {x : V}, Vals xs us → xs[i]? = some x → ∃ u, us[i]? = some u ∧ RelV x u
 | _, _, _, _, .nil, e => by simp at e
 | _, _, 0, _, .cons r _, e => by simp at e; subst e; exact ⟨_, rfl, r⟩
 | _, _, i + 1, x, .cons _ t, e => by
  obtain ⟨u, h1, h2⟩ := Vals.get (i := i) (x := x) t (by simpa using e)
  exact ⟨u, by simpa using h1, h2⟩
theorem Vals.append : ∀ {xs ys : List V} {us ws : List Value}, Vals xs us → Vals ys ws → Vals (xs ++ ys) (us ++ ws)
 | _, _, _, _, .nil, s => s
 | _, _, _, _, .cons r t, s => .cons r (Vals.append t s)
theorem Vals.take : ∀ {xs : List V} {us : List Value} (n : Nat), Vals xs us → Vals (xs.take n) (us.take n)
 | _, _, 0, _ => .nil
 | _, _, _ + 1, .nil => .nil
 | _, _, n + 1, .cons r t => .cons r (Vals.take n t)
theorem Vals.drop : ∀ {xs : List V} {us : List Value} (n : Nat), Vals xs us → Vals (xs.drop n) (us.drop n)
 | _, _, 0, r => r
 | _, _, _ + 1, .nil => .nil
 | _, _, n + 1, .cons _ t => Vals.drop n t
noncomputable def RelO : Option V → Option Value → Prop
 | some v, some u => RelV v u
 | none, none => True
 | _, _ => False
noncomputable def KV {κ : Type} : List (κ × V) → List (κ × Value) → Prop := Paired fun (p : κ × V) (q : κ × Value) => p.1 = q.1 ∧ RelV p.2 q.2

noncomputable def kV : Key → V
 | .inl i => .int i
 | .inr x => .str x

inductive HO where
 /-- a list -/
 | lst (xs : List V)
 /-- a tuple (never changes) -/
 | tup (xs : List V)
 /-- a dict whose keys are ints and texts; one whose keys are tuples of ints and texts (the empty one is both) -/
 | dK (kvs : List (Key × V)) | dT (kvs : List (List Key × V))
 /-- a set of ints: its members, its size -/
 | set (S : Int → Bool) (n : Nat)
 /-- an instance of the class at C, its dict at dx, its attributes -/
 | ins (C dx : Addr) (fs : List (Str × V))
 /-- the dict of the instance at x -/
 | own (x : Addr)
 /-- the dict of an exception -/
 | xd (fs : List (Str × V))
 /-- a bound method, f of x -/
 | met (f x : Addr)
 /-- a range object lo, lo + 1, .. below hi -/
 | rng (lo hi : Int)
 /-- a thing that is known to the object (the script; a dict while a loop walks it): read, never written while it is so -/
 | frz (o : Obj) (u : HO)
 /-- a code object's table -/
 | tbl (ps : Array Value)
 /-- any other thing, by what is true of its one object (a def of one's own: SetO a S n := HO.ext fun h => ..) -/
 | ext (φ : Heap → Prop)

noncomputable abbrev Hp := Addr → Option HO
noncomputable def upd (H : Hp) (a : Addr) (o : HO) : Hp := fun b => if b = a then some o else H b
theorem upd_same {H : Hp} {a : Addr} {o : HO} : upd H a o a = some o := by unfold upd; rw [if_pos rfl]
theorem upd_ne {H : Hp} {a b : Addr} {o : HO} (h : b ≠ a) : upd H a o b = H b := by unfold upd; rw [if_neg h]
theorem ne_of_none {H : Hp} {a b : Addr} {o : HO} (h : H a = some o) (h' : H b = none) : a ≠ b := by
 intro e; subst e; rw [h] at h'; cases h'

section
variable (P : Program) (w : World)
noncomputable def ObjOk (H : Hp) (h : Heap) (a : Addr) : HO → Prop
 | .lst xs => xs.length ≤ sizeLine ∧ ∃ (its : List Value) (n : Nat), Vals xs its ∧ h.get? a = some { cls := .type "list", data := .seq its.toArray n }
 | .tup xs => xs.length ≤ sizeLine ∧ ∃ its : List Value, Vals xs its ∧ IsTup h a its.toArray
 | .dK kvs => kvs.length ≤ sizeLine ∧ (a == sysModules) = false ∧ ∃ vs, KV kvs vs ∧ h.DictOf (mixKind P w) a vs
 | .dT kvs => kvs.length ≤ sizeLine ∧ (a == sysModules) = false ∧ ∃ xs : List (List Key × Addr × Value),
   Paired (fun (p : List Key × V) (q : List Key × Addr × Value) => p.1 = q.1 ∧ H q.2.1 = some (.tup (p.1.map kV)) ∧ RelV p.2 q.2.2) kvs xs ∧
   ∃ o es ep, h.get? a = some o ∧ o.ExactDict ∧ o.data = .dict es ep ∧ es.toList = xs.map (entryOfKey (tupleKind (mixKind P w))) ∧ (xs.map (·.1)).Nodup
 | .set S n => h.SetOf (intKind P w) a S n
 | .ins C dx fs => H dx = some (.own a) ∧ fs.length ≤ 1000 ∧ dx ≠ a ∧ h.get? a = some (PySem.W.instObj C dx) ∧
   ∃ mA, h.Ns1 dx mA ∧ (∀ f, RelO (fs.lookup f) (mA f)) ∧ PySem.Within mA (fs.map (·.1))
 | .own _ => ∃ o, h.get? a = some o
 | .xd fs => ∃ mA, h.Ns1 a mA ∧ ∀ f, RelO (fs.lookup f) (mA f)
 | .rng lo hi => ∃ t u v, h.get? a = some { cls := .type "range", data := .fields #[.int lo t, .int hi u, .int 1 v] }
 | .frz o u => h.get? a = some o ∧ ObjOk H h a u
 | .tbl ps => h.get? a = some { cls := .none, data := .fields ps }
 | .met f x => h.get? a = some (PySem.W.methodObj (.ref f) (.ref x))
 | .ext φ => φ h ∧ (∃ o, h.get? a = some o) ∧ ∀ h1 h2 : Heap, φ h1 → (∀ o, h1.get? a = some o → h2.get? a = some o) → φ h2
noncomputable def HOk (H : Hp) (h : Heap) : Prop := ∀ a o, H a = some o → ObjOk P w H h a o
end

section
variable {P : Program} {w : World} {H H' : Hp} {h h' : Heap} {a : Addr} {o : HO}
theorem ObjOk.lt (x : ObjOk P w H h a o) : a < h.objs.size := by
 cases o with
 | lst xs => obtain ⟨_, _, _, _, e⟩ := x; exact Heap.lt_size e
 | tup xs => obtain ⟨_, _, _, p⟩ := x; exact p.lt
 | dK kvs => obtain ⟨_, _, _, _, o, _, _, e, _⟩ := x; exact Heap.lt_size e
 | dT kvs => obtain ⟨_, _, _, _, o, _, _, e, _⟩ := x; exact Heap.lt_size e
 | set S n => obtain ⟨o, _, _, _, e, _⟩ := x; exact Heap.lt_size e
 | ins C dx fs => obtain ⟨_, _, _, e, _⟩ := x; exact Heap.lt_size e
 | own y => obtain ⟨_, e⟩ := x; exact Heap.lt_size e
 | xd fs => obtain ⟨_, ⟨_, _, _, e, _⟩, _⟩ := x; exact Heap.lt_size e
 | rng lo hi => obtain ⟨_, _, _, e⟩ := x; exact Heap.lt_size e
 | frz ob u => obtain ⟨e, _⟩ := x; exact Heap.lt_size e
 | tbl ps => exact Heap.lt_size (show h.get? a = some _ from x)
 | met f y => exact Heap.lt_size (show h.get? a = some _ from x)
 | ext φ => obtain ⟨_, ⟨_, e⟩, _⟩ := x; exact Heap.lt_size e
theorem Paired.mapP {α β : Type} {F G : α → β → Prop} : ∀ {l₁ : List α} {l₂ : List β}, Paired F l₁ l₂ → (∀ a b, F a b → G a b) → Paired G l₁ l₂
 | _, _, .nil, _ => .nil
 | _, _, .cons r t, f => .cons (f _ _ r) (Paired.mapP t f)
theorem ObjOk.stay (x : ObjOk P w H h a o) (k : ∀ b u, (b = a ∨ H b = some (.own a)) → h.get? b = some u → h'.get? b = some u)
  (ho : ∀ b, H b = some (.own a) → H' b = some (.own a)) (ht : ∀ b xs, H b = some (.tup xs) → H' b = some (.tup xs)) : ObjOk P w H' h' a o := by
 induction o with
 | lst xs => obtain ⟨z, its, n, r, e⟩ := x; exact ⟨z, its, n, r, k _ _ (.inl rfl) e⟩
 | tup xs => obtain ⟨z, its, r, ob, e, c⟩ := x; exact ⟨z, its, r, ob, k _ _ (.inl rfl) e, c⟩
 | dK kvs => obtain ⟨z, y, vs, r, ob, es, ep, e, c⟩ := x; exact ⟨z, y, vs, r, ob, es, ep, k _ _ (.inl rfl) e, c⟩
 | dT kvs =>
  obtain ⟨z, y, xs, r, ob, es, ep, e, c⟩ := x
  exact ⟨z, y, xs, Paired.mapP r fun p q z => ⟨z.1, ht _ _ z.2.1, z.2.2⟩, ob, es, ep, k _ _ (.inl rfl) e, c⟩
 | set S n => obtain ⟨ob, es, ep, t, e, c⟩ := x; exact ⟨ob, es, ep, t, k _ _ (.inl rfl) e, c⟩
 | ins C dx fs =>
  obtain ⟨d, z, ne, e, mA, ⟨od, es, ep, e2, c⟩, r⟩ := x
  exact ⟨ho _ d, z, ne, k _ _ (.inl rfl) e, mA, ⟨od, es, ep, k _ _ (.inr d) e2, c⟩, r⟩
 | own y => obtain ⟨ob, e⟩ := x; exact ⟨ob, k _ _ (.inl rfl) e⟩
 | xd fs => obtain ⟨mA, ⟨od, es, ep, e, c⟩, r⟩ := x; exact ⟨mA, ⟨od, es, ep, k _ _ (.inl rfl) e, c⟩, r⟩
 | rng lo hi => obtain ⟨t, u, v, e⟩ := x; exact ⟨t, u, v, k _ _ (.inl rfl) e⟩
 | frz ob u ih => obtain ⟨e, q⟩ := x; exact ⟨k _ _ (.inl rfl) e, ih q⟩
 | tbl ps =>
  have e : h.get? a = some { cls := .none, data := .fields ps } := x
  show h'.get? a = some { cls := .none, data := .fields ps }
  exact k a _ (.inl rfl) e
 | met f y =>
  have e : h.get? a = some (PySem.W.methodObj (.ref f) (.ref y)) := x
  show h'.get? a = some (PySem.W.methodObj (.ref f) (.ref y))
  exact k a _ (.inl rfl) e
 | ext φ => obtain ⟨p, ⟨o, e⟩, st⟩ := x; exact ⟨st _ _ p fun o q => k _ _ (.inl rfl) q, ⟨o, k _ _ (.inl rfl) e⟩, st⟩
theorem HOk.lt (x : HOk P w H h) (e : H a = some o) : a < h.objs.size := (x a o e).lt
theorem HOk.fresh (x : HOk P w H h) (e : h.objs.size ≤ a) : H a = none := by
 cases q : H a with
 | none => rfl
 | some u => exact absurd (Nat.lt_of_lt_of_le (x.lt q) e) (Nat.lt_irrefl _)
theorem HOk.kept (x : HOk P w H h) (k : ∀ b u, h.get? b = some u → h'.get? b = some u) : HOk P w H h' := fun a o e =>
 (x a o e).stay (fun b u _ q => k b u q) (fun _ q => q) fun _ _ q => q
theorem HOk.laid (x : HOk P w H h) (k : ∀ b u, h.get? b = some u → h'.get? b = some u) (hp : h.objs.size ≤ a) (new : ObjOk P w (upd H a o) h' a o) : HOk P w (upd H a o) h' := fun b u e => by
 have hn := x.fresh hp
 by_cases hb : b = a
 ·subst hb; rw [upd_same] at e; cases e; exact new
 ·rw [upd_ne hb] at e
  exact (x b u e).stay (fun c v _ q => k c v q) (fun c q => by rw [upd_ne (ne_of_none q hn)]; exact q) fun c xs q => by rw [upd_ne (ne_of_none q hn)]; exact q
end

noncomputable def Rd (H : Hp) (a : Addr) (u : HO) : Prop := H a = some u ∨ ∃ o, H a = some (.frz o u)
theorem Rd.of {H : Hp} {a : Addr} {u : HO} (h : H a = some u) : Rd H a u := .inl h
theorem Rd.ok {P : Program} {w : World} {H : Hp} {h : Heap} {a : Addr} {u : HO} (r : Rd H a u) (x : HOk P w H h) : ObjOk P w H h a u := by
 rcases r with r | ⟨o, r⟩
 ·exact x a u r
 ·obtain ⟨_, q⟩ := x a _ r
  exact q
noncomputable def Mut : Option HO → Prop
 | some (.lst _) => True
 | some (.dK _) => True
 | some (.dT _) => True
 | some (.set _ _) => True
 | some (.ins _ _ _) => True
 | some (.ext _) => True
 | _ => False
section
variable {P : Program} {w : World} {H : Hp} {h h' : Heap} {x e : Addr} {o' : HO}
theorem HOk.write (ok : HOk P w H h) (mu : Mut (H x)) (he : e = x ∨ H e = some (.own x)) (k : ∀ b u, b ≠ e → h.get? b = some u → h'.get? b = some u) (heo : ∃ u, h'.get? e = some u)
  (new : ObjOk P w (upd H x o') h' x o') : HOk P w (upd H x o') h' := fun b u q => by
 have nown : ∀ c y, H c = some (.own y) → c ≠ x := fun c y r z => by subst z; rw [r] at mu; exact mu
 have ntup : ∀ c xs, H c = some (.tup xs) → c ≠ x := fun c xs r z => by subst z; rw [r] at mu; exact mu
 by_cases hb : b = x
 ·subst hb; rw [upd_same] at q; cases q; exact new
 ·rw [upd_ne hb] at q
  by_cases hbe : b = e
  ·have q' : H b = some (.own x) := by
    rcases he with z | z
    ·exact absurd (hbe.trans z) hb
    ·rw [hbe]; exact z
   rw [q] at q'; cases q'
   obtain ⟨v, hv⟩ := heo
   exact ⟨v, by rw [hbe]; exact hv⟩
  ·refine (ok b u q).stay (fun c v hc r => k c v ?_ r) (fun c r => by rw [upd_ne (nown c b r)]; exact r) fun c xs r => by rw [upd_ne (ntup c xs r)]; exact r
   rcases hc with rfl | hc
   ·exact hbe
   ·rintro rfl
    rcases he with z | z
    ·exact nown c b hc z
    ·rw [hc] at z; cases z; exact hb rfl
end

structure Un (fs ex : List Addr) (H H' : Hp) (h h' : Heap) : Prop where
 keep : ∀ b o, h.get? b = some o → H b = none → b ∉ fs → b ∉ ex → h'.get? b = some o
 slot : ∀ b o, h.get? b = some o → H b = none → b ∈ fs → b ∉ ex → ∃ sl, h'.get? b = some { o with slots := sl }
 free : ∀ b o, h.get? b = some o → H b = none → b ∉ ex → H' b = none
 there : ∀ b o, h.get? b = some o → b ∉ ex → ∃ o', h'.get? b = some o'
 tups : ∀ b xs, H b = some (.tup xs) → H' b = some (.tup xs)
 frzs : ∀ b o u, H b = some (.frz o u) → H' b = some (.frz o u)
 tbls : ∀ b ps, H b = some (.tbl ps) → ∃ more, H' b = some (.tbl (ps ++ more))
section
variable {fs fs' ex ex' : List Addr} {H H1 H2 : Hp} {h h1 h2 h' : Heap} {a x e : Addr} {o : HO}
theorem Un.any (u : Un fs ex H H1 h h1) {b : Addr} {ob : Obj} (q : h.get? b = some ob) (n : H b = none) (hx : b ∉ ex) : ∃ sl, h1.get? b = some { ob with slots := sl } := by
 by_cases hb : b ∈ fs
 ·exact u.slot b ob q n hb hx
 ·exact ⟨ob.slots, u.keep b ob q n hb hx⟩
theorem Un.trans (a : Un fs ex H H1 h h1) (b : Un fs ex H1 H2 h1 h2) : Un fs ex H H2 h h2 where
 keep := fun c ob q n hc hx => b.keep c ob (a.keep c ob q n hc hx) (a.free c ob q n hx) hc hx
 slot := fun c ob q n hc hx => by
  obtain ⟨sl, e1⟩ := a.slot c ob q n hc hx
  obtain ⟨sl', e2⟩ := b.slot c _ e1 (a.free c ob q n hx) hc hx
  exact ⟨sl', e2⟩
 free := fun c ob q n hx => by
  obtain ⟨o', e1⟩ := a.there c ob q hx
  exact b.free c o' e1 (a.free c ob q n hx) hx
 there := fun c ob q hx => by
  obtain ⟨o', e1⟩ := a.there c ob q hx
  exact b.there c o' e1 hx
 tups := fun c xs q => b.tups c xs (a.tups c xs q)
 frzs := fun c ob xs q => b.frzs c ob xs (a.frzs c ob xs q)
 tbls := fun c ps q => by
  obtain ⟨m1, e1⟩ := a.tbls c ps q
  obtain ⟨m2, e2⟩ := b.tbls c _ e1
  exact ⟨m1 ++ m2, by rw [e2, Array.append_assoc]⟩
theorem Un.kept (k : ∀ b u, h.get? b = some u → h'.get? b = some u) : Un fs ex H H h h' :=
 ⟨fun b ob q _ _ _ => k b ob q, fun b ob q _ _ _ => ⟨ob.slots, k b ob q⟩, fun _ _ _ n _ => n, fun b ob q _ => ⟨ob, k b ob q⟩, fun _ _ q => q, fun _ _ _ q => q, fun _ ps q => ⟨#[], by rw [q]; simp⟩⟩
theorem Un.refl : Un fs ex H H h h := Un.kept fun _ _ q => q
theorem Un.laid (k : ∀ b u, h.get? b = some u → h'.get? b = some u) (hp : h.objs.size ≤ a) (hn : H a = none) : Un fs ex H (upd H a o) h h' where
 keep := fun b u q _ _ _ => k b u q
 slot := fun b u q _ _ _ => ⟨u.slots, k b u q⟩
 free := fun b u q n _ => by rw [upd_ne (Nat.ne_of_lt (Nat.lt_of_lt_of_le (Heap.lt_size q) hp))]; exact n
 there := fun b u q _ => ⟨u, k b u q⟩
 tups := fun b xs q => by rw [upd_ne (ne_of_none q hn)]; exact q
 frzs := fun b u xs q => by rw [upd_ne (ne_of_none q hn)]; exact q
 tbls := fun b ps q => ⟨#[], by rw [upd_ne (ne_of_none q hn), q]; simp⟩
theorem Un.write (mu : Mut (H x)) (he : e = x ∨ H e = some (.own x)) (k : ∀ b u, b ≠ e → h.get? b = some u → h'.get? b = some u) (heo : ∃ u, h'.get? e = some u) : Un fs ex H (upd H x o) h h' := by
 have hx : ∀ b, H b = none → b ≠ x := fun b n z => by subst z; rw [n] at mu; exact mu
 have hb : ∀ b, H b = none → b ≠ e := fun b n z => by
  subst z
  rcases he with r | r
  ·exact hx b n r
  ·rw [n] at r; cases r
 have hm : ∀ b u, H b = some u → ¬ Mut (some u) → b ≠ x := fun b u q nm z => by subst z; rw [q] at mu; exact nm mu
 refine ⟨fun b u q n _ _ => k b u (hb b n) q, fun b u q n _ _ => ⟨u.slots, k b u (hb b n) q⟩, fun b u q n _ => by rw [upd_ne (hx b n)]; exact n, fun b u q _ => ?_,
  fun b xs q => by rw [upd_ne (hm b _ q fun z => z)]; exact q, fun b u xs q => by rw [upd_ne (hm b _ q fun z => z)]; exact q, fun b ps q => ⟨#[], by rw [upd_ne (hm b _ q fun z => z), q]; simp⟩⟩
 by_cases hbe : b = e
 ·subst hbe; exact heo
 ·exact ⟨u, k b u hbe q⟩
end

noncomputable def trk (h : Heap) (H : Hp) : List Addr := (List.range h.objs.size).filter fun a => (H a).isSome
noncomputable def hidT (h : Heap) (H : Hp) : Heap := PySem.W.hideAll h (trk h H)
theorem hidT_size (h : Heap) (H : Hp) : (hidT h H).objs.size = h.objs.size := PySem.W.hideAll_size _ _
theorem hidT_get {h : Heap} {H : Hp} {b : Addr} {o : Obj} (e : h.get? b = some o) (n : H b = none) : (hidT h H).get? b = some o :=
 PySem.W.hideAll_get _ e fun hm => by
  have q : (H b).isSome = true := (List.mem_filter.mp hm).2
  rw [n] at q; simp at q
theorem of_hidT {h : Heap} {H : Hp} {b : Addr} {o : Obj} (e : (hidT h H).get? b = some o) : h.get? b = some o ∧ H b = none := by
 have e' : h.get? b = some o := PySem.W.of_hideAll (trk h H) e
 refine ⟨e', ?_⟩
 cases q : H b with
 | none => rfl
 | some x =>
  have hm : b ∈ trk h H := List.mem_filter.mpr ⟨List.mem_range.mpr (Heap.lt_size e'), by simp [q]⟩
  have z : (hidT h H).get? b = none := PySem.W.hideAll_none (trk h H) hm
  rw [z] at e; cases e

end L2

namespace L2
open PySem PySem.Spec PyProof.Rows

structure Mod (K : PySem.W.Frag) (mg : Str → Option Value) (base : Heap) : Prop where
 kin : K.In base
 glob : base.Ns mainGlobals mg
 blt : ∃ mb, base.Ns builtinsNs mb ∧ ∀ x : Str, x ≠ "__name__" → mb x = bootBuiltins x
 nolimit : base.NoLimit

structure Cx where
 prog : Program
 w : World
 K : PySem.W.Frag
 mg : Str → Option Value
 base : Heap
 A : Around
 N : List Str
 s₀ : Shared
 H₀ : Hp
 env : Env
 outer : List Env
 stack : List Env
 ex : List Addr
 fn : Str → Bool
 calm : Bool
 pn : List (Addr × Obj)
 xe : Value → Shared → Prop
noncomputable def frs (l : List Env) : List Addr := l.filterMap (·.frame)
noncomputable abbrev Cx.fs (X : Cx) : List Addr := frs X.outer

noncomputable def Vis (sc : Scope) (x : Str) : Prop := sc.names.lookup x = some .local ∨ sc.names.lookup x = some .cell ∨ sc.names.lookup x = some .free
noncomputable def Loc (sc : Scope) (x : Str) : Prop := sc.names.lookup x = some .local ∨ sc.names.lookup x = some .cell
noncomputable def Look (env : Env) (h : Heap) (m : Str → Option Value) (x : Str) (u : Value) : Prop :=
 (env.kindOf x = some .local ∧ m x = some u) ∨ ((env.kindOf x = some .cell ∨ env.kindOf x = some .free) ∧ ∃ c, env.cells.lookup x = some c ∧ h.IsCell c (some u))

structure Cx.Ok (X : Cx) : Prop where
 mod : Mod X.K X.mg X.base
 kind : X.env.scope.kind = .function
 glob : X.env.globals = mainGlobals
 blt : X.env.builtins = builtinsNs
 above : X.s₀.heap.objs.size ≤ X.env.locals
 inj : ∀ x y c, X.env.cells.lookup x = some c → X.env.cells.lookup y = some c → x = y
 has : ∀ x, (X.env.kindOf x = some .cell ∨ X.env.kindOf x = some .free) → ∃ c, X.env.cells.lookup x = some c
 cab : ∀ x c, X.fn x = true → X.env.cells.lookup x = some c → X.s₀.heap.objs.size ≤ c
 hd : X.calm = true → X.A.handled = none
 frames : X.A.frames = some X.stack
 stk : X.stack = X.outer ∨ (X.stack = X.env :: X.outer ∧ X.env.frame = some X.env.locals)
 exf : ∀ b ∈ X.ex, b ≠ X.env.locals ∧ ∀ x c, X.env.cells.lookup x = some c → c ≠ b
 bs : ∀ b o, X.base.get? b = some o → X.s₀.heap.get? b = some o ∧ X.H₀ b = none
 bsz : X.base.objs.size ≤ X.s₀.heap.objs.size
 noex : ∀ b o, X.base.get? b = some o → b ∉ X.ex
 exfs : ∀ b ∈ X.ex, b ∉ X.fs
 funs : X.s₀.heap.FunFrames X.base X.outer
 frf : ∀ b ∈ X.fs, X.H₀ b = none

structure Inv (X : Cx) (pins : List (Addr × Obj)) (σ : List (Option V)) (H : Hp) (s : Shared) : Prop where
 ok : X.Ok
 os : s.os = X.s₀.os
 bare : AllBare s.gens
 base : Un X.fs X.ex X.H₀ H X.s₀.heap s.heap
 loc : ∃ m, s.heap.Ns X.env.locals m ∧ ∀ (i : Nat) (x : Str) (v : V), X.N[i]? = some x → σ[i]? = some (some v) → Vis X.env.scope x → ∃ u, RelV v u ∧ Look X.env s.heap m x u
 cell : ∀ x c, X.env.cells.lookup x = some c → ∃ v, s.heap.IsCell c v
 free : H X.env.locals = none
 freeC : ∀ x c, X.env.cells.lookup x = some c → H c = none
 pin : ∀ p ∈ X.pn ++ pins, s.heap.get? p.1 = some p.2 ∧ H p.1 = none ∧ p.1 ≠ X.env.locals ∧ p.1 ∉ X.fs ∧ ∀ v, p.2.data ≠ .cell v
 hok : HOk X.prog X.w H s.heap
 len : σ.length = X.N.length

section
variable {X : Cx} {pins : List (Addr × Obj)} {σ : List (Option V)} {H H' : Hp} {s : Shared} {h' : Heap}

theorem Cx.Ok.nofr (ok : X.Ok) {b : Addr} {o : Obj} (e : X.base.get? b = some o) : b ∉ X.fs := fun hb => by
 have := (ok.funs.mem hb).1
 rw [e] at this; cases this
theorem Inv.bs (I : Inv X pins σ H s) : ∀ b o, X.base.get? b = some o → s.heap.get? b = some o ∧ H b = none := fun b o e =>
 ⟨I.base.keep b o (I.ok.bs b o e).1 (I.ok.bs b o e).2 (I.ok.nofr e) (I.ok.noex b o e), I.base.free b o (I.ok.bs b o e).1 (I.ok.bs b o e).2 (I.ok.noex b o e)⟩
theorem Inv.bk (I : Inv X pins σ H s) : ∀ b o, X.base.get? b = some o → s.heap.get? b = some o := fun b o e => (I.bs b o e).1
theorem Inv.mod (I : Inv X pins σ H s) : Mod X.K X.mg X.base := I.ok.mod
theorem Inv.kIn (I : Inv X pins σ H s) : X.K.In s.heap := I.ok.mod.kin.keeps I.bk
theorem Inv.lt (I : Inv X pins σ H s) : X.env.locals < s.heap.objs.size := let ⟨_, hn, _⟩ := I.loc; hn.lt
theorem Inv.sz (I : Inv X pins σ H s) : X.s₀.heap.objs.size ≤ s.heap.objs.size := Nat.le_trans I.ok.above (Nat.le_of_lt I.lt)
theorem Inv.nofs (I : Inv X pins σ H s) {a : Addr} (h : s.heap.objs.size ≤ a) : a ∉ X.fs := fun hb => by
 obtain ⟨_, o, ho, _⟩ := I.ok.funs.mem hb
 exact absurd (Nat.lt_of_lt_of_le (Heap.lt_size ho) (Nat.le_trans I.sz h)) (Nat.lt_irrefl _)
theorem Inv.cne (I : Inv X pins σ H s) : ∀ x c, X.env.cells.lookup x = some c → c ≠ X.env.locals := fun x c e z => by
 obtain ⟨v, o, ho, hd⟩ := I.cell x c e
 obtain ⟨m, ⟨o', es, ep, ho', hd', _⟩, _⟩ := I.loc
 rw [z, ho'] at ho; cases ho; rw [hd'] at hd; cases hd
theorem Inv.funs (I : Inv X pins σ H s) : s.heap.FunFrames X.base X.outer := by
 have all : ∀ (l : List Env), (∀ b ∈ frs l, b ∈ X.fs) → X.s₀.heap.FunFrames X.base l → s.heap.FunFrames X.base l := by
  intro l
  induction l with
  | nil => intro _ _; trivial
  | cons env r ih =>
   intro hs hl
   obtain ⟨hk, ⟨L, o, hf, hn, ho, hd⟩, hr⟩ := hl
   have hL : L ∈ X.fs := hs L (by unfold frs; rw [List.filterMap_cons, hf]; exact List.mem_cons_self)
   obtain ⟨sl, e⟩ := I.base.slot L o ho (I.ok.frf L hL) hL fun z => I.ok.exfs L z hL
   exact ⟨hk, ⟨L, _, hf, hn, e, hd⟩, ih (fun b hb => hs b (by unfold frs; rw [List.filterMap_cons, hf]; exact List.mem_cons_of_mem _ hb)) hr⟩
 exact all X.outer (fun _ hb => hb) I.ok.funs

theorem Inv.stack (I : Inv X pins σ H s) : s.heap.FunFrames X.base X.stack := by
 rcases I.ok.stk with e | ⟨e, hf⟩
 ·rw [e]; exact I.funs
 ·rw [e]
  obtain ⟨m, hn, _⟩ := I.loc
  refine .cons (by rw [I.ok.kind]; decide) hf hn ?_ I.funs
  exact Heap.get?_none_of_le (Nat.le_trans I.ok.bsz I.ok.above)
theorem Inv.stkSub (I : Inv X pins σ H s) : ∀ b ∈ frs X.stack, b ∈ X.env.locals :: X.fs := fun b hb => by
 rcases I.ok.stk with e | ⟨e, hf⟩
 ·rw [e] at hb; exact List.mem_cons_of_mem _ hb
 ·rw [e] at hb
  unfold frs at hb
  rw [List.filterMap_cons, hf] at hb
  exact hb
theorem Inv.stkFree (I : Inv X pins σ H s) : ∀ b ∈ frs X.stack, H b = none := fun b hb => by
 rcases List.mem_cons.mp (I.stkSub b hb) with e | hb
 ·rw [e]; exact I.free
 ·obtain ⟨_, o, ho, _⟩ := I.ok.funs.mem hb
  exact I.base.free b o ho (I.ok.frf b hb) fun z => I.ok.exfs b z hb

theorem Inv.step {g' : Array GenState} {t' : Nat} {d' : Drawn} {ch : List Addr} (I : Inv X pins σ H s)
  (hch : ∀ b ∈ ch, (b ∈ X.ex ∨ X.s₀.heap.objs.size ≤ b) ∧ b ≠ X.env.locals ∧ (∀ x c, X.env.cells.lookup x = some c → c ≠ b) ∧ ∀ p ∈ X.pn ++ pins, p.1 ≠ b)
  (keep : ∀ b o, b ≠ X.env.locals → b ∉ X.fs → b ∉ ch → s.heap.get? b = some o → H b = none → h'.get? b = some o)
  (slot : ∀ b o, b ≠ X.env.locals → b ∈ X.fs → b ∉ ch → s.heap.get? b = some o → H b = none → ∃ sl, h'.get? b = some { o with slots := sl }) (free : ∀ b o, b ∉ ch → s.heap.get? b = some o → H b = none → H' b = none)
  (there : ∀ b o, b ∉ ch → s.heap.get? b = some o → ∃ o', h'.get? b = some o')
  (tups : ∀ b xs, H b = some (.tup xs) → H' b = some (.tup xs)) (frzs : ∀ b o u, H b = some (.frz o u) → H' b = some (.frz o u)) (tbls : ∀ b ps, H b = some (.tbl ps) → ∃ more, H' b = some (.tbl (ps ++ more)))
  (ns : ∀ m, s.heap.Ns X.env.locals m → h'.Ns X.env.locals m) (hok : HOk X.prog X.w H' h') (hg : AllBare g') :
  Inv X pins σ H' { s with heap := h', gens := g', drawn := d', toks := t' } := by
 have neL : ∀ b o, X.s₀.heap.get? b = some o → b ≠ X.env.locals := fun b o e => Nat.ne_of_lt (Nat.lt_of_lt_of_le (Heap.lt_size e) I.ok.above)
 have neC : ∀ b o, X.s₀.heap.get? b = some o → b ∉ X.ex → b ∉ ch := fun b o e hx hb => by
  rcases (hch b hb).1 with z | z
  ·exact hx z
  ·exact absurd (Nat.lt_of_lt_of_le (Heap.lt_size e) z) (Nat.lt_irrefl _)
 have cellK : ∀ x c, X.env.cells.lookup x = some c → ∀ v, s.heap.IsCell c v → h'.IsCell c v := fun x c e v ⟨o, ho, hd⟩ => by
  have nch : c ∉ ch := fun z => (hch c z).2.2.1 x c e rfl
  by_cases hc : c ∈ X.fs
  ·obtain ⟨sl, q⟩ := slot c o (I.cne x c e) hc nch ho (I.freeC x c e)
   exact ⟨_, q, hd⟩
  ·exact ⟨o, keep c o (I.cne x c e) hc nch ho (I.freeC x c e), hd⟩
 refine ⟨I.ok, I.os, hg, ⟨fun b o e n hb hx => ?_, fun b o e n hb hx => ?_, fun b o e n hx => ?_, fun b o e hx => ?_, fun b xs e => tups b xs (I.base.tups b xs e), fun b o xs e => frzs b o xs (I.base.frzs b o xs e), fun b ps e => ?_⟩, ?_, fun x c e => ?_, ?_, fun x c e => ?_, fun p hp => ?_, hok, I.len⟩
 ·exact keep b o (neL b o e) hb (neC b o e hx) (I.base.keep b o e n hb hx) (I.base.free b o e n hx)
 ·obtain ⟨sl, e1⟩ := I.base.slot b o e n hb hx
  obtain ⟨sl', e2⟩ := slot b _ (neL b o e) hb (neC b o e hx) e1 (I.base.free b o e n hx)
  exact ⟨sl', e2⟩
 ·obtain ⟨o', e1⟩ := I.base.there b o e hx
  exact free b o' (neC b o e hx) e1 (I.base.free b o e n hx)
 ·obtain ⟨o', e1⟩ := I.base.there b o e hx
  exact there b o' (neC b o e hx) e1
 ·obtain ⟨m1, e1⟩ := I.base.tbls b ps e
  obtain ⟨m2, e2⟩ := tbls b _ e1
  exact ⟨m1 ++ m2, by rw [e2, Array.append_assoc]⟩
 ·obtain ⟨m, hn, hl⟩ := I.loc
  refine ⟨m, ns m hn, fun i x v e1 e2 e3 => ?_⟩
  obtain ⟨u, r, l⟩ := hl i x v e1 e2 e3
  refine ⟨u, r, ?_⟩
  rcases l with l | ⟨k, c, e, z⟩
  ·exact .inl l
  ·exact .inr ⟨k, c, e, cellK x c e _ z⟩
 ·obtain ⟨v, z⟩ := I.cell x c e
  exact ⟨v, cellK x c e v z⟩
 ·obtain ⟨m, ⟨o, _, _, ho, _⟩, _⟩ := I.loc
  exact free _ o (fun z => (hch _ z).2.1 rfl) ho I.free
 ·obtain ⟨v, o, ho, hd⟩ := I.cell x c e
  exact free c o (fun z => (hch c z).2.2.1 x c e rfl) ho (I.freeC x c e)
 ·obtain ⟨e, n, ne, nf, d⟩ := I.pin p hp
  have nch : p.1 ∉ ch := fun z => (hch p.1 z).2.2.2 p hp rfl
  exact ⟨keep p.1 p.2 ne nf nch e n, free p.1 p.2 nch e n, ne, nf, d⟩
theorem Inv.un {t' : Nat} (I : Inv X pins σ H s) (u : Un X.fs [] H H' s.heap h') (hok : HOk X.prog X.w H' h') : Inv X pins σ H' { s with heap := h', toks := t' } := by
 obtain ⟨m, ⟨o, es, ep, ho, r⟩, _⟩ := id I.loc
 obtain ⟨sl, hL⟩ := u.any ho I.free (by simp)
 exact I.step (g' := s.gens) (d' := s.drawn) (ch := []) (fun _ z => nomatch z) (fun b o _ hb _ e n => u.keep b o e n hb (by simp)) (fun b o _ hb _ e n => u.slot b o e n hb (by simp)) (fun b o _ e n => u.free b o e n (by simp)) (fun b o _ e => u.there b o e (by simp)) u.tups u.frzs u.tbls (fun m' hm => by
  obtain ⟨o', es', ep', ho', r'⟩ := hm
  rw [ho] at ho'; cases ho'
  exact ⟨_, es', ep', hL, r'⟩) hok I.bare
theorem Inv.call {g' : Array GenState} {t' : Nat} {d' : Drawn} {ch : List Addr} (I : Inv X pins σ H s) (u : Un (frs X.stack) ch H H' s.heap h') (hok : HOk X.prog X.w H' h') (hg : AllBare g')
  (hch : ∀ b ∈ ch, (b ∈ X.ex ∨ X.s₀.heap.objs.size ≤ b) ∧ b ≠ X.env.locals ∧ (∀ x c, X.env.cells.lookup x = some c → c ≠ b) ∧ ∀ p ∈ X.pn ++ pins, p.1 ≠ b) :
  Inv X pins σ H' { s with heap := h', gens := g', drawn := d', toks := t' } := by
 obtain ⟨m, ⟨o, es, ep, ho, r⟩, _⟩ := id I.loc
 obtain ⟨sl, hL⟩ := u.any ho I.free fun z => (hch _ z).2.1 rfl
 exact I.step (ch := ch) hch (fun b o hL hb hc e n => u.keep b o e n (fun z => (List.mem_cons.mp (I.stkSub b z)).elim hL hb) hc) (fun b o _ _ hc e n => u.any e n hc) (fun b o hc e n => u.free b o e n hc) (fun b o hc e => u.there b o e hc) u.tups u.frzs u.tbls (fun m' hm => by
  obtain ⟨o', es', ep', ho', r'⟩ := hm
  rw [ho] at ho'; cases ho'
  exact ⟨_, es', ep', hL, r'⟩) hok hg
theorem Inv.turned {t' : Nat} {it : Addr} (I : Inv X pins σ H s) (k : ∀ b o, b ≠ it → s.heap.get? b = some o → h'.get? b = some o) (hn : H it = none) (hL : it ≠ X.env.locals)
  (h1 : it ∈ X.ex ∨ X.s₀.heap.objs.size ≤ it) (h2 : ∀ x c, X.env.cells.lookup x = some c → c ≠ it) (h3 : ∀ p ∈ X.pn ++ pins, p.1 ≠ it) : Inv X pins σ H { s with heap := h', toks := t' } := by
 have nit : ∀ b u, H b = some u → b ≠ it := fun b u e z => by rw [z, hn] at e; cases e
 refine I.step (g' := s.gens) (d' := s.drawn) (ch := [it]) (fun b hb => ?_) (fun b o _ _ hc e _ => k b o (fun z => hc (by simp [z])) e) (fun b o _ _ hc e _ => ⟨o.slots, k b o (fun z => hc (by simp [z])) e⟩) (fun _ _ _ _ n => n)
  (fun b o hc e => ⟨o, k b o (fun z => hc (by simp [z])) e⟩) (fun _ _ e => e) (fun _ _ _ e => e) (fun b ps e => ⟨#[], by rw [e]; simp⟩) (fun m hm => ?_) (fun b u e => ?_) I.bare
 ·have e : b = it := by simpa using hb
  subst e
  exact ⟨h1, hL, h2, h3⟩
 ·obtain ⟨o, es, ep, ho, r⟩ := hm
  exact ⟨o, es, ep, k _ o (Ne.symm hL) ho, r⟩
 ·refine (I.hok b u e).stay (fun c v hc q => k c v ?_ q) (fun _ q => q) fun _ _ q => q
  rcases hc with z | z
  ·rw [z]; exact nit b u e
  ·exact nit c _ z
theorem Inv.tok (I : Inv X pins σ H s) (t : Nat) : Inv X pins σ H { s with toks := t } := I.un (h' := s.heap) (t' := t) Un.refl I.hok
theorem Inv.kept {t' : Nat} (I : Inv X pins σ H s) (k : ∀ b u, s.heap.get? b = some u → h'.get? b = some u) : Inv X pins σ H { s with heap := h', toks := t' } := I.un (Un.kept k) (I.hok.kept k)
theorem Inv.laid {a : Addr} {o : HO} {t' : Nat} (I : Inv X pins σ H s) (k : ∀ b u, s.heap.get? b = some u → h'.get? b = some u) (hp : s.heap.objs.size ≤ a) (new : ObjOk X.prog X.w (upd H a o) h' a o) :
  Inv X pins σ (upd H a o) { s with heap := h', toks := t' } := I.un (Un.laid k hp (I.hok.fresh hp)) (I.hok.laid k hp new)
theorem Inv.write {x e : Addr} {o : HO} {t' : Nat} (I : Inv X pins σ H s) (mu : Mut (H x)) (he : e = x ∨ H e = some (.own x)) (k : ∀ b u, b ≠ e → s.heap.get? b = some u → h'.get? b = some u) (heo : ∃ u, h'.get? e = some u)
  (new : ObjOk X.prog X.w (upd H x o) h' x o) : Inv X pins σ (upd H x o) { s with heap := h', toks := t' } := I.un (Un.write mu he k heo) (I.hok.write mu he k heo new)
theorem Inv.pins_of {pins' : List (Addr × Obj)} (I : Inv X pins σ H s) (h : ∀ p ∈ pins', s.heap.get? p.1 = some p.2 ∧ H p.1 = none ∧ p.1 ≠ X.env.locals ∧ p.1 ∉ X.fs ∧ ∀ v, p.2.data ≠ .cell v) : Inv X pins' σ H s :=
 ⟨I.ok, I.os, I.bare, I.base, I.loc, I.cell, I.free, I.freeC, fun p hp => (List.mem_append.mp hp).elim (fun z => I.pin p (List.mem_append_left _ z)) (h p), I.hok, I.len⟩

theorem nodup_ix {N : List Str} (hN : N.Nodup) {i j : Nat} {x : Str} (a : N[i]? = some x) (b : N[j]? = some x) : i = j := by
 obtain ⟨h1, e1⟩ := List.getElem?_eq_some_iff.mp a
 obtain ⟨h2, e2⟩ := List.getElem?_eq_some_iff.mp b
 exact (List.getElem_inj hN).mp (e1.trans e2.symm)

theorem store_ok2 {M : Model} {A : Around} {E : Value → Shared → Prop} {i : Nat} {x : Str} {v : V} {u : Value} {Q : Unit → Shared → Prop} (I : Inv X pins σ H s) (hN : X.N.Nodup) (hi : X.N[i]? = some x) (hx : Loc X.env.scope x) (r : RelV v u)
  (h : ∀ s', Inv X pins (σ.set i (some v)) H s' → (∃ a, Heap.SameBut a s.heap s'.heap ∧ (a = X.env.locals ∨ X.env.cells.lookup x = some a)) → Q () s') (hf : X.fn x = true ∨ X.env.scope.names.lookup x = some .local := by first | exact .inl rfl | exact .inr rfl | assumption) : wpAny M A (storeName X.env x u) Q E s := by
 obtain ⟨m, hn, hl⟩ := id I.loc
 have hcls : (X.env.scope.kind == .class || (X.env.scope.kind == .module && X.env.locals != X.env.globals)) = false := by rw [I.ok.kind]; rfl
 have hiσ : i < σ.length := by rw [I.len]; exact (List.getElem?_eq_some_iff.mp hi).1
 have cne := I.cne
 have tracked : ∀ {a : Addr} {h' : Heap}, (∃ o, s.heap.get? a = some o ∧ H a = none) → Heap.SameBut a s.heap h' → HOk X.prog X.w H h' := fun {a h'} ha hs b ob e => by
  obtain ⟨_, _, hfree⟩ := ha
  refine (I.hok b ob e).stay (fun c w' hc q => (hs.2 c ?_).trans q) (fun _ q => q) fun _ _ q => q
  rintro rfl
  rcases hc with rfl | hc
  ·rw [hfree] at e; cases e
  ·rw [hfree] at hc; cases hc
 rcases hx with hk | hk
 ·refine wpAny_storeName_local hk hn (fun h' hn' hs => ?_) hcls
  obtain ⟨oL, _, _, hoL, _⟩ := id hn
  refine h _ ⟨I.ok, I.os, I.bare, ⟨fun b o e n hb hx => ?_, fun b o e n hb hx => ?_, I.base.free, fun b o e hx => ?_, I.base.tups, I.base.frzs, I.base.tbls⟩, ⟨_, hn', fun j y v' e1 e2 e3 => ?_⟩, fun y c e => ?_, I.free, I.freeC, fun p hp => ?_, tracked ⟨oL, hoL, I.free⟩ hs, by simpa using I.len⟩ ⟨_, hs, .inl rfl⟩
  ·exact (hs.2 b (Nat.ne_of_lt (Nat.lt_of_lt_of_le (Heap.lt_size e) I.ok.above))).trans (I.base.keep b o e n hb hx)
  ·obtain ⟨sl, e1⟩ := I.base.slot b o e n hb hx
   exact ⟨sl, (hs.2 b (Nat.ne_of_lt (Nat.lt_of_lt_of_le (Heap.lt_size e) I.ok.above))).trans e1⟩
  ·obtain ⟨o', e1⟩ := I.base.there b o e hx
   exact ⟨o', (hs.2 b (Nat.ne_of_lt (Nat.lt_of_lt_of_le (Heap.lt_size e) I.ok.above))).trans e1⟩
  ·by_cases hj : j = i
   ·subst hj
    rw [hi] at e1; cases e1
    rw [List.getElem?_set_self hiσ] at e2
    cases e2
    exact ⟨u, r, .inl ⟨hk, by simp⟩⟩
   ·rw [List.getElem?_set_ne (Ne.symm hj)] at e2
    obtain ⟨u', r', q⟩ := hl j y v' e1 e2 e3
    refine ⟨u', r', ?_⟩
    rcases q with ⟨k, e⟩ | ⟨k, c, e, z⟩
    ·refine .inl ⟨k, ?_⟩
     have : y ≠ x := fun e => hj (nodup_ix hN e1 (e ▸ hi))
     simp [this, e]
    ·exact .inr ⟨k, c, e, z.sameBut hs (cne y c e)⟩
  ·obtain ⟨w', z⟩ := I.cell y c e
   exact ⟨w', z.sameBut hs (cne y c e)⟩
  ·obtain ⟨e, n, ne, nf, d⟩ := I.pin p hp
   exact ⟨(hs.2 p.1 ne).trans e, n, ne, nf, d⟩
 ·have hfn : X.fn x = true := by
   rcases hf with z | z
   ·exact z
   ·rw [z] at hk; cases hk
  obtain ⟨c, hc⟩ := I.ok.has x (.inl hk)
  obtain ⟨w', z⟩ := I.cell x c hc
  refine wpAny_storeName_cell I.ok.kind hk hc z (fun h' hc' hs => ?_)
  obtain ⟨oc, hoc, hocd⟩ := id z
  refine h { s with heap := h' } ⟨I.ok, I.os, I.bare, ⟨fun b o e n hb hx => ?_, fun b o e n hb hx => ?_, I.base.free, fun b o e hx => ?_, I.base.tups, I.base.frzs, I.base.tbls⟩, ⟨m, hn.sameBut hs (Ne.symm (cne x c hc)), fun j y v' e1 e2 e3 => ?_⟩, fun y c' e => ?_, I.free, I.freeC, fun p hp => ?_, tracked ⟨oc, hoc, I.freeC x c hc⟩ hs, by simpa using I.len⟩ ⟨c, hs, .inr hc⟩
  ·exact (hs.2 b (Nat.ne_of_lt (Nat.lt_of_lt_of_le (Heap.lt_size e) (I.ok.cab x c hfn hc)))).trans (I.base.keep b o e n hb hx)
  ·obtain ⟨sl, e1⟩ := I.base.slot b o e n hb hx
   exact ⟨sl, (hs.2 b (Nat.ne_of_lt (Nat.lt_of_lt_of_le (Heap.lt_size e) (I.ok.cab x c hfn hc)))).trans e1⟩
  ·obtain ⟨o', e1⟩ := I.base.there b o e hx
   exact ⟨o', (hs.2 b (Nat.ne_of_lt (Nat.lt_of_lt_of_le (Heap.lt_size e) (I.ok.cab x c hfn hc)))).trans e1⟩
  ·by_cases hj : j = i
   ·subst hj
    rw [hi] at e1; cases e1
    rw [List.getElem?_set_self hiσ] at e2
    cases e2
    exact ⟨u, r, .inr ⟨.inl hk, c, hc, hc'⟩⟩
   ·rw [List.getElem?_set_ne (Ne.symm hj)] at e2
    obtain ⟨u', r', q⟩ := hl j y v' e1 e2 e3
    refine ⟨u', r', ?_⟩
    rcases q with q | ⟨k, c', e, z'⟩
    ·exact .inl q
    ·refine .inr ⟨k, c', e, z'.sameBut hs ?_⟩
     rintro rfl
     exact hj (nodup_ix hN e1 (I.ok.inj _ _ _ e hc ▸ hi))
  ·by_cases hcc : c' = c
   ·subst hcc; exact ⟨_, hc'⟩
   ·obtain ⟨w2, z2⟩ := I.cell y c' e
    exact ⟨w2, z2.sameBut hs hcc⟩
  ·obtain ⟨e, n, ne, nf, d⟩ := I.pin p hp
   refine ⟨(hs.2 p.1 ?_).trans e, n, ne, nf, d⟩
   intro q
   rw [q, hoc] at e
   have q' : oc = p.2 := Option.some.inj e
   exact d w' (by rw [← q']; exact hocd)
theorem store_ok {M : Model} {A : Around} {E : Value → Shared → Prop} {i : Nat} {x : Str} {v : V} {u : Value} {Q : Unit → Shared → Prop} (I : Inv X pins σ H s) (hN : X.N.Nodup) (hi : X.N[i]? = some x) (hx : Loc X.env.scope x) (r : RelV v u)
  (h : ∀ s', Inv X pins (σ.set i (some v)) H s' → Q () s') (hf : X.fn x = true ∨ X.env.scope.names.lookup x = some .local := by first | exact .inl rfl | exact .inr rfl | assumption) : wpAny M A (storeName X.env x u) Q E s :=
 store_ok2 I hN hi hx r (fun s' I' _ => h s' I') hf
theorem Inv.call' {s' : Shared} {ch : List Addr} (I : Inv X pins σ H s) (ho : s'.os = s.os) (u : Un (frs X.stack) ch H H' s.heap s'.heap) (hok : HOk X.prog X.w H' s'.heap) (hg : AllBare s'.gens)
  (hch : ∀ b ∈ ch, (b ∈ X.ex ∨ X.s₀.heap.objs.size ≤ b) ∧ b ≠ X.env.locals ∧ (∀ x c, X.env.cells.lookup x = some c → c ≠ b) ∧ ∀ p ∈ X.pn ++ pins, p.1 ≠ b) : Inv X pins σ H' s' := by
 obtain ⟨h', g', d', t', o'⟩ := s'
 have e : o' = s.os := ho
 subst e
 exact I.call (g' := g') (t' := t') (d' := d') u hok hg hch
end

noncomputable abbrev XK := Value → Option Addr → Hp → Prop
noncomputable abbrev St := List (Option V)
noncomputable abbrev VK := V → Hp → Prop
noncomputable abbrev TE := St → Hp → VK → Prop
noncomputable abbrev TT := St → Hp → (Bool → Hp → Prop) → Prop
noncomputable abbrev TA := St → Hp → (List V → Hp → Prop) → Prop
structure Ends where
 nx : St → Hp → Prop
 rt : VK
 bk : St → Hp → Prop := fun _ _ => False
 ct : St → Hp → Prop := fun _ _ => False
noncomputable abbrev TS := Ends → St → Hp → Prop

noncomputable def EP (X : Cx) (pins : List (Addr × Obj)) (σ : St) (Q : VK) (u : Value) (s' : Shared) : Prop := ∃ v H', Inv X pins σ H' s' ∧ RelV v u ∧ Q v H'
noncomputable def TP (X : Cx) (pins : List (Addr × Obj)) (σ : St) (Q : Bool → Hp → Prop) (b : Bool) (s' : Shared) : Prop := ∃ H', Inv X pins σ H' s' ∧ Q b H'
noncomputable def AP (X : Cx) (pins : List (Addr × Obj)) (σ : St) (Q : List V → Hp → Prop) (us : List Value) (s' : Shared) : Prop := ∃ vs H', Inv X pins σ H' s' ∧ Vals vs us ∧ Q vs H'
noncomputable def SP (X : Cx) (pins : List (Addr × Obj)) (D : Ends) (f : Flow) (s' : Shared) : Prop :=
 match f with
 | .next => ∃ σ' H', Inv X pins σ' H' s' ∧ D.nx σ' H'
 | .brk => ∃ σ' H', Inv X pins σ' H' s' ∧ D.bk σ' H'
 | .cont => ∃ σ' H', Inv X pins σ' H' s' ∧ D.ct σ' H'
 | .ret u => ∃ v σ' H', Inv X pins σ' H' s' ∧ RelV v u ∧ D.rt v H'

noncomputable def PE (X : Cx) (e : Expr) (t : TE) : Prop :=
 ∀ (pins : List (Addr × Obj)) (s : Shared) (σ : St) (H : Hp) (Q : VK), Inv X pins σ H s → t σ H Q → wpAny (model X.prog X.w) X.A (eval e X.env) (EP X pins σ Q) X.xe s
noncomputable def PT (X : Cx) (e : Expr) (t : TT) : Prop :=
 ∀ (pins : List (Addr × Obj)) (s : Shared) (σ : St) (H : Hp) (Q : Bool → Hp → Prop), Inv X pins σ H s → t σ H Q → wpAny (model X.prog X.w) X.A (isTrue e X.env (eval e X.env)) (TP X pins σ Q) X.xe s
noncomputable def PW (X : Cx) (e : Expr) (t : TT) : Prop :=
 ∀ (whole : Sem Value) (pins : List (Addr × Obj)) (s : Shared) (σ : St) (H : Hp) (Q : Bool → Hp → Prop), Inv X pins σ H s → t σ H Q → wpAny (model X.prog X.w) X.A (isTrue e X.env whole) (TP X pins σ Q) X.xe s
theorem PW.pt {X : Cx} {e : Expr} {t : TT} (h : PW X e t) : PT X e t := h _
noncomputable def PA (X : Cx) (es : List Expr) (t : TA) : Prop :=
 ∀ (pos : Pos) (pins : List (Addr × Obj)) (s : Shared) (σ : St) (H : Hp) (Q : List V → Hp → Prop), Inv X pins σ H s → t σ H Q → wpAny (model X.prog X.w) X.A (spliced (backTo pos (starEach es X.env))) (AP X pins σ Q) X.xe s
noncomputable def PS (X : Cx) (st : Stmt) (t : TS) : Prop :=
 ∀ (pins : List (Addr × Obj)) (s : Shared) (σ : St) (H : Hp) (D : Ends), Inv X pins σ H s → t D σ H → wpAny (model X.prog X.w) X.A (exec st X.env) (SP X pins D) X.xe s
noncomputable def PSs (X : Cx) (st : List Stmt) (t : TS) : Prop :=
 ∀ (pins : List (Addr × Obj)) (s : Shared) (σ : St) (H : Hp) (D : Ends), Inv X pins σ H s → t D σ H → wpAny (model X.prog X.w) X.A (execs st X.env) (SP X pins D) X.xe s
theorem thn {α : Type} {t : Sem α} {Q Q' : α → Shared → Prop} {M : Model} {A : Around} {E : Value → Shared → Prop} {s : Shared} (h : wpAny M A t Q E s) (hQ : ∀ a s, Q a s → Q' a s) : wpAny M A t Q' E s := wpAny_mono h hQ fun _ _ x => x
end L2

namespace L2
open PySem PySem.Spec PyProof.Rows
section
variable {X : Cx}

noncomputable def tVar (i : Nat) : TE := fun σ H Q => ∃ v, σ[i]? = some (some v) ∧ Q v H
noncomputable def tC (v : V) : TE := fun _ H Q => Q v H
theorem pe_var {i : Nat} {x : Str} {pos : Pos} (hN : X.N[i]? = some x) (hv : Vis X.env.scope x) (hd : (x == ("__debug__" : Str)) = false := by decide) (hcd : (x == ("__classdict__" : Str)) = false := by decide) : PE X (.Name x pos) (tVar i) := by
 intro pins s σ H Q I h
 obtain ⟨v, e, h⟩ := h
 obtain ⟨m, hn, hl⟩ := I.loc
 obtain ⟨u, r, l⟩ := hl i x v hN e hv
 have fin : EP X pins σ Q u s := ⟨v, H, I, r, h⟩
 rcases l with ⟨hk, hm⟩ | ⟨hk, c, hc, hcell⟩
 ·exact wpAny_Name (wpAny_loadName_local I.ok.kind hk hn hm fin) hd
 ·rcases hk with hk | hk
  ·exact wpAny_Name (wpAny_loadName_cell I.ok.kind hk hc hcell fin) hd
  ·exact wpAny_Name (wpAny_loadName_free I.ok.kind hk hc hcell fin hcd) hd
theorem pe_int {i j pos} : PE X (.Constant (.int i) j pos) (tC (.int i)) := fun _ _ _ H _ I h => wpAny_Constant_int ⟨.int i, H, I.tok _, ⟨_, rfl⟩, h⟩
theorem pe_bl {b j pos} : PE X (.Constant (.bool b) j pos) (tC (.bl b)) := fun _ _ _ H _ I h => Constant_bool ⟨.bl b, H, I, rfl, h⟩
theorem pe_non {j pos} : PE X (.Constant .none j pos) (tC .non) := fun _ _ _ H _ I h => Constant_none ⟨.non, H, I, rfl, h⟩
theorem pe_str {x j pos} : PE X (.Constant (.str x) j pos) (tC (.str x)) := fun _ _ _ H _ I h => Calls.Constant_str ⟨.str x, H, I.tok _, ⟨_, rfl⟩, h⟩

noncomputable def Gl (X : Cx) (x : Str) : Prop := X.env.kindOf x = some .globalImplicit
theorem ld_glob {E : Value → Shared → Prop} {pins : List (Addr × Obj)} {s : Shared} {σ : St} {H : Hp} {x : Str} {u : Value} {pos : Pos} {Q : Value → Shared → Prop} (I : Inv X pins σ H s) (hg : Gl X x) (hm : X.mg x = some u) (h : Q u s)
  (hd : (x == ("__debug__" : Str)) = false := by decide) : wpAny (model X.prog X.w) X.A (eval (.Name x pos) X.env) Q E s :=
 Calls.Name_function_global I.ok.kind hg (Calls.loadGlobal_global (by rw [I.ok.glob]; exact I.mod.glob.keeps I.bk) hm h) hd
theorem ld_blt {E : Value → Shared → Prop} {pins : List (Addr × Obj)} {s : Shared} {σ : St} {H : Hp} {x : Str} {u : Value} {pos : Pos} {Q : Value → Shared → Prop} (I : Inv X pins σ H s) (hg : Gl X x) (hm : X.mg x = none) (hv : bootBuiltins x = some u) (h : Q u s)
  (hn : x ≠ "__name__" := by decide) (hd : (x == ("__debug__" : Str)) = false := by decide) : wpAny (model X.prog X.w) X.A (eval (.Name x pos) X.env) Q E s := by
 obtain ⟨mb, h1, h2⟩ := I.mod.blt
 exact Calls.Name_function_global I.ok.kind hg (Calls.loadGlobal_builtin (by rw [I.ok.glob]; exact I.mod.glob.keeps I.bk) hm (by rw [I.ok.blt]; exact h1.keeps I.bk) ((h2 x hn).trans hv) h) hd
theorem pe_glob {x : Str} {v : V} {u : Value} {pos : Pos} (hg : Gl X x) (hm : X.mg x = some u) (r : RelV v u) (hd : (x == ("__debug__" : Str)) = false := by decide) : PE X (.Name x pos) (tC v) :=
 fun _ _ _ H _ I h => ld_glob I hg hm ⟨v, H, I, r, h⟩ hd
theorem pe_bltn {x : Str} {v : V} {u : Value} {pos : Pos} (hg : Gl X x) (hm : X.mg x = none) (hv : bootBuiltins x = some u) (r : RelV v u) (hn : x ≠ "__name__" := by decide) (hd : (x == ("__debug__" : Str)) = false := by decide) : PE X (.Name x pos) (tC v) :=
 fun _ _ _ H _ I h => ld_blt I hg hm hv ⟨v, H, I, r, h⟩ hn hd

variable {a b : Expr} {ta tb : TE} {pos : Pos}
theorem nobehind (b : Expr) {op : CmpOp} (h : op ≠ .In) (h2 : op ≠ .NotIn) : behindInMarks op b = false := by
 have e1 : (op == CmpOp.In) = false := by cases op <;> first | rfl | exact absurd rfl h
 have e2 : (op == CmpOp.NotIn) = false := by cases op <;> first | rfl | exact absurd rfl h2
 cases b <;> simp [behindInMarks, e1, e2]
variable {tA tB' : TT} {rest : List Expr}
theorem pw_and1 (ha : PT X a tA) : PW X (.BoolOp .And [a] pos) tA := by
 intro wh pins s σ H Q I h
 refine isTrue_and (thn (ha pins s σ H Q I h) fun c s1 e => ?_)
 cases c with
 | true => exact isTrue_and_nil e
 | false => exact e
theorem pw_or1 (ha : PT X a tA) : PW X (.BoolOp .Or [a] pos) tA := by
 intro wh pins s σ H Q I h
 refine isTrue_or (thn (ha pins s σ H Q I h) fun c s1 e => ?_)
 cases c with
 | false => exact isTrue_or_nil e
 | true => exact e
theorem pe_one {op} {t : TE} (h : PE X a t) : PE X (.BoolOp op [a] pos) t := fun pins s σ H Q I hw => BoolOp_one (h pins s σ H Q I hw)
end
end L2

namespace L2
open PySem PySem.Spec PyProof.Rows

noncomputable def SqL (K : PySem.W.Frag) (H : Hp) (a : Addr) (xs : List V) : Prop :=
 Rd H a (.lst xs) ∨
  ∃ (o : Obj) (its : Array Value) (n : Nat), K.lookup a = some o ∧ o.cls = .type "list" ∧ o.dict = none ∧ o.data = .seq its n ∧ its.size ≤ sizeLine ∧ Vals xs its.toList
noncomputable def SqT (K : PySem.W.Frag) (H : Hp) (a : Addr) (xs : List V) : Prop :=
 Rd H a (.tup xs) ∨
  ∃ (o : Obj) (its : Array Value) (n : Nat), K.lookup a = some o ∧ o.cls = .type "tuple" ∧ o.data = .seq its n ∧ its.size ≤ sizeLine ∧ Vals xs its.toList
noncomputable def absV : Value → Option V
 | .none => some .non
 | .bool b => some (.bl b)
 | .int i _ => some (.int i)
 | .str x _ => some (.str x)
 | .bytes b _ => some (.byt b)
 | .float b _ => some (.flt b)
 | .ref a => some (.ref a)
 | .type n => some (.ty n)
 | _ => none
theorem RelV.abs {x : V} {u : Value} (r : RelV x u) : absV u = some x := by
 cases x with
 | non => cases r; rfl
 | bl _ => cases r; rfl
 | int _ => obtain ⟨t, rfl⟩ := r; rfl
 | str _ => obtain ⟨t, rfl⟩ := r; rfl
 | byt _ => obtain ⟨t, rfl⟩ := r; rfl
 | flt _ => obtain ⟨t, rfl⟩ := r; rfl
 | ref _ => cases r; rfl
 | ty _ => cases r; rfl
theorem RelV.inj {x y : V} {u : Value} (r : RelV x u) (q : RelV y u) : x = y := Option.some.inj (r.abs.symm.trans q.abs)
theorem Vals.inj : ∀ {xs ys : List V} {us : List Value}, Vals xs us → Vals ys us → xs = ys
 | _, _, _, .nil, .nil => rfl
 | _, _, _, .cons r t, .cons r' t' => by rw [r.inj r', Vals.inj t t']
section
variable {X : Cx} {pins : List (Addr × Obj)} {σ : St} {H : Hp} {s : Shared} {a : Addr} {xs ys : List V}
theorem SqL.of {K : PySem.W.Frag} (h : H a = some (.lst xs)) : SqL K H a xs := .inl (.inl h)
theorem SqT.of {K : PySem.W.Frag} (h : H a = some (.tup xs)) : SqT K H a xs := .inl (.inl h)
theorem Inv.list (I : Inv X pins σ H s) (h : SqL X.K H a xs) : ∃ its : List Value, Vals xs its ∧ PlainL s.heap a its.toArray ∧ xs.length ≤ sizeLine := by
 rcases h with h | ⟨o, its, n, hk, hc, hd, hs, hz, r⟩
 ·obtain ⟨z, its, n, r, e⟩ := h.ok I.hok
  exact ⟨its, r, ⟨_, n, e, rfl, rfl, rfl⟩, z⟩
 ·refine ⟨its.toList, r, ⟨o, n, I.kIn a o hk, hc, hd, by simpa using hs⟩, ?_⟩
  have e := r.length
  simp only [Array.length_toList] at e
  omega
theorem Inv.tuple (I : Inv X pins σ H s) (h : SqT X.K H a xs) : ∃ its : List Value, Vals xs its ∧ IsTup s.heap a its.toArray ∧ xs.length ≤ sizeLine := by
 rcases h with h | ⟨o, its, n, hk, hc, hs, hz, r⟩
 ·obtain ⟨z, its, r, p⟩ := h.ok I.hok
  exact ⟨its, r, p, z⟩
 ·refine ⟨its.toList, r, ⟨o, I.kIn a o hk, hc, n, by simpa using hs⟩, ?_⟩
  have e := r.length
  simp only [Array.length_toList] at e
  omega
theorem Inv.list_inj (I : Inv X pins σ H s) (h : SqL X.K H a xs) (h' : SqL X.K H a ys) : xs = ys := by
 obtain ⟨its, r, ⟨o, n, e, _, _, d⟩, _⟩ := I.list h
 obtain ⟨its', r', ⟨o', n', e', _, _, d'⟩, _⟩ := I.list h'
 rw [e] at e'; cases e'
 rw [d] at d'
 injection d' with d1 _
 have : its = its' := by simpa using congrArg Array.toList d1
 subst this
 exact r.inj r'
theorem Inv.tuple_inj (I : Inv X pins σ H s) (h : SqT X.K H a xs) (h' : SqT X.K H a ys) : xs = ys := by
 obtain ⟨its, r, ⟨o, e, _, n, d⟩, _⟩ := I.tuple h
 obtain ⟨its', r', ⟨o', e', _, n', d'⟩, _⟩ := I.tuple h'
 rw [e] at e'; cases e'
 rw [d] at d'
 injection d' with d1 _
 have : its = its' := by simpa using congrArg Array.toList d1
 subst this
 exact r.inj r'
end

noncomputable abbrev Cx.wish (X : Cx) (E : Value → Shared → Prop) : Cx := { X with xe := E }
noncomputable abbrev Cx.nox (X : Cx) : Cx := X.wish fun _ _ => False
theorem Cx.Ok.wish {X : Cx} (ok : X.Ok) (E : Value → Shared → Prop) : (X.wish E).Ok :=
 ⟨ok.mod, ok.kind, ok.glob, ok.blt, ok.above, ok.inj, ok.has, ok.cab, ok.hd, ok.frames, ok.stk, ok.exf, ok.bs, ok.bsz, ok.noex, ok.exfs, ok.funs, ok.frf⟩
theorem Cx.Ok.unwish {X : Cx} {E : Value → Shared → Prop} (ok : (X.wish E).Ok) : X.Ok :=
 ⟨ok.mod, ok.kind, ok.glob, ok.blt, ok.above, ok.inj, ok.has, ok.cab, ok.hd, ok.frames, ok.stk, ok.exf, ok.bs, ok.bsz, ok.noex, ok.exfs, ok.funs, ok.frf⟩
section
variable {X : Cx} {pins : List (Addr × Obj)} {σ : St} {H : Hp} {s : Shared} {E : Value → Shared → Prop}
theorem Inv.wish (I : Inv X pins σ H s) (E : Value → Shared → Prop) : Inv (X.wish E) pins σ H s := ⟨I.ok.wish E, I.os, I.bare, I.base, I.loc, I.cell, I.free, I.freeC, I.pin, I.hok, I.len⟩
theorem Inv.unwish (I : Inv (X.wish E) pins σ H s) : Inv X pins σ H s := ⟨I.ok.unwish, I.os, I.bare, I.base, I.loc, I.cell, I.free, I.freeC, I.pin, I.hok, I.len⟩
theorem SP.unwish {D : Ends} {f : Flow} {s' : Shared} (h : SP (X.wish E) pins D f s') : SP X pins D f s' := by
 cases f with
 | next => obtain ⟨σ', H', I, q⟩ := h; exact ⟨σ', H', I.unwish, q⟩
 | brk => obtain ⟨σ', H', I, q⟩ := h; exact ⟨σ', H', I.unwish, q⟩
 | cont => obtain ⟨σ', H', I, q⟩ := h; exact ⟨σ', H', I.unwish, q⟩
 | ret u => obtain ⟨v, σ', H', I, r, q⟩ := h; exact ⟨v, σ', H', I.unwish, r, q⟩
theorem PSs.nox {st : List Stmt} {t : TS} (h : PSs X.nox st t) : PSs X st t := fun pins s σ H D I hw =>
 wpAny_mono (h pins s σ H D (I.wish _) hw) (fun _ _ q => q.unwish) fun _ _ z => False.elim z
end

section
variable {X : Cx} {st : Stmt} {rest : List Stmt} {t u : TS} {e : Expr} {te : TE} {pos : Pos}
noncomputable def tNext : TS := fun D σ H => D.nx σ H
noncomputable def tSeq (t u : TS) : TS := fun D σ H => t { D with nx := u D } σ H
theorem pss_nil : PSs X [] tNext := fun _ _ σ H _ I h => wpAny_execs_nil ⟨σ, H, I, h⟩
theorem pss_cons (h1 : PS X st t) (h2 : PSs X rest u) : PSs X (st :: rest) (tSeq t u) := by
 intro pins s σ H D I h
 refine wpAny_execs_cons (thn (h1 pins s σ H { D with nx := u D } I h) fun f s1 q => ?_)
 cases f with
 | next =>
  obtain ⟨σ', H', I', q⟩ := q
  exact h2 pins s1 σ' H' D I' q
 | ret v => exact q
 | brk => exact q
 | cont => exact q
theorem pss_one (h1 : PS X st t) : PSs X [st] t := by
 intro pins s σ H D I h
 refine wpAny_execs_cons (thn (h1 pins s σ H D I h) fun f s1 q => ?_)
 cases f with
 | next => exact wpAny_execs_nil q
 | ret v => exact q
 | brk => exact q
 | cont => exact q
theorem Inv.quiet {pins : List (Addr × Obj)} {σ : St} {H : Hp} {s : Shared} (I : Inv X pins σ H s) : interactive X.env = false := by simp [interactive, I.ok.kind]
noncomputable def tDrop (te : TE) : TS := fun D σ H => te σ H fun _ H1 => D.nx σ H1
theorem ps_expr (he : PE X e te) (hs : swapsWith e none pos.line X.env = pure false := by rfl) : PS X (.Expr e pos) (tDrop te) := by
 intro pins s σ H D I h
 exact wpAny_Expr_any (thn (he pins s σ H _ I h) fun v s1 ⟨x, H1, I1, r1, q1⟩ => ⟨σ, H1, I1, q1⟩) I.quiet hs
noncomputable def tRet (te : TE) : TS := fun D σ H => te σ H D.rt
theorem ps_ret (he : PE X e te) : PS X (.Return (some e) pos) (tRet te) := by
 intro pins s σ H D I h
 exact wpAny_Return_some (thn (he pins s σ H _ I h) fun v s1 ⟨x, H1, I1, r1, q1⟩ => ⟨x, σ, H1, I1, r1, q1⟩)
noncomputable def tIfS (c : TT) (t u : TS) : TS := fun D σ H => c σ H fun b H1 => if b = true then t D σ H1 else u D σ H1
theorem ps_if {c : Expr} {a b : List Stmt} {tc : TT} (hc : PT X c tc) (ha : PSs X a t) (hb : PSs X b u) : PS X (.If c a b pos) (tIfS tc t u) := by
 intro pins s σ H D I h
 refine wpAny_If (thn (hc pins s σ H _ I h) fun d s1 ⟨H1, I1, q1⟩ => ?_)
 cases d with
 | true => exact ha pins s1 σ H1 D I1 q1
 | false => exact hb pins s1 σ H1 D I1 q1
noncomputable def tNever : TS := fun _ _ _ => False
theorem ps_never : PS X st tNever := fun _ _ _ _ _ _ h => h.elim
end

noncomputable abbrev TG := V → St → Hp → (St → Hp → Prop) → Prop
noncomputable abbrev TGs := List V → St → Hp → (St → Hp → Prop) → Prop
noncomputable def PG (X : Cx) (target : Expr) (t : TG) : Prop :=
 ∀ (pins : List (Addr × Obj)) (s : Shared) (σ : St) (H : Hp) (v : V) (u : Value) (Q : St → Hp → Prop), Inv X pins σ H s → RelV v u → t v σ H Q →
  wpAny (model X.prog X.w) X.A (assign target X.env u) (fun _ s' => ∃ σ' H', Inv X pins σ' H' s' ∧ Q σ' H') X.xe s
noncomputable def PGs (X : Cx) (ts : List Expr) (t : TGs) : Prop :=
 ∀ (pins : List (Addr × Obj)) (s : Shared) (σ : St) (H : Hp) (vs : List V) (us : List Value) (Q : St → Hp → Prop), Inv X pins σ H s → Vals vs us → t vs σ H Q →
  wpAny (model X.prog X.w) X.A (assignInOrder ((assignEach ts X.env).map (·.2)) us) (fun _ s' => ∃ σ' H', Inv X pins σ' H' s' ∧ Q σ' H') X.xe s
section
variable {X : Cx} {pos : Pos}
noncomputable def gName (i : Nat) : TG := fun v σ H Q => Q (σ.set i (some v)) H
theorem pg_name {i : Nat} {x : Str} (hN : X.N.Nodup) (hi : X.N[i]? = some x) (hx : Loc X.env.scope x) (hf : X.fn x = true ∨ X.env.scope.names.lookup x = some .local := by first | exact .inl rfl | exact .inr rfl | assumption) : PG X (.Name x pos) (gName i) := by
 intro pins s σ H v u Q I r h
 exact wpAny_assign_Name (store_ok I hN hi hx r (fun s' I' => ⟨_, H, I', h⟩) hf)
noncomputable def gNil : TGs := fun vs σ H Q => vs = [] ∧ Q σ H
noncomputable def gCons (t : TG) (u : TGs) : TGs := fun vs σ H Q => ∃ v r, vs = v :: r ∧ t v σ H fun σ' H' => u r σ' H' Q
theorem pgs_nil : PGs X [] gNil := by
 intro pins s σ H vs us Q I r h
 obtain ⟨e, h⟩ := h
 subst e
 cases r
 exact assignInOrder_nil ⟨σ, H, I, h⟩
theorem pgs_cons {e : Expr} {es : List Expr} {t : TG} {u : TGs} (h1 : PG X e t) (h2 : PGs X es u)
  (hs : (assignEach (e :: es) X.env).map (·.2) = assign e X.env :: (assignEach es X.env).map (·.2) := by rfl) : PGs X (e :: es) (gCons t u) := by
 intro pins s σ H vs us Q I r h
 obtain ⟨v, vr, e1, h⟩ := h
 subst e1
 cases r with
 | cons r rr =>
  rw [hs]
  refine assignInOrder_cons (thn (h1 pins s σ H _ _ _ I r h) fun _ s1 ⟨σ1, H1, I1, q1⟩ => ?_)
  exact h2 pins s1 σ1 H1 _ _ Q I1 rr q1
noncomputable def gTup (K : PySem.W.Frag) (n : Nat) (t : TGs) : TG := fun v σ H Q => ∃ a xs, v = .ref a ∧ SqT K H a xs ∧ xs.length = n ∧ t xs σ H Q
theorem pg_tup {es : List Expr} {k : Nat} {t : TGs} {n : Nat} (hc : X.calm = true) (h : PGs X es t)
  (hn : (assignEach es X.env).length = n := by rfl) (hst : (assignEach es X.env).findIdx? (·.1) = none := by rfl) : PG X (.Tuple es k pos) (gTup X.K n t) := by
 intro pins s σ H v u Q I r hw
 obtain ⟨a, xs, e1, hq, hl, hw⟩ := hw
 subst e1
 cases r
 obtain ⟨its, rv, ht, hz⟩ := I.tuple hq
 refine assign_Tuple_tuple (I.ok.hd hc) ht (by simp [hn, ← hl, rv.length]) hst fun h' hx => ?_
 have I1 : Inv X pins σ H { s with heap := h' } := I.kept (t' := s.toks) fun b o e => hx b o (Nat.ne_of_lt (Heap.lt_size e)) e
 exact h pins _ σ H xs _ Q I1 (by simpa using rv) hw
noncomputable def tAsg (te : TE) (g : TG) : TS := fun D σ H => te σ H fun x H1 => g x σ H1 D.nx
theorem ps_set {i : Nat} {x : Str} {e : Expr} {te : TE} {pos' : Pos} (hN : X.N.Nodup) (hi : X.N[i]? = some x) (hx : Loc X.env.scope x) (he : PE X e te) (hs : swapsWith e (some (.Name x pos')) pos.line X.env = pure false := by rfl) (hf : X.fn x = true ∨ X.env.scope.names.lookup x = some .local := by first | exact .inl rfl | exact .inr rfl | assumption) :
  PS X (.Assign [.Name x pos'] e pos) (tAsg te (gName i)) := by
 intro pins s σ H D I h
 refine wpAny_Assign_Name (thn (he pins s σ H _ I h) fun v s1 ⟨y, H1, I1, r1, q1⟩ => ?_) hs
 exact store_ok I1 hN hi hx r1 (fun s2 I2 => ⟨_, H1, I2, q1⟩) hf
end

section
variable {X : Cx} {pos : Pos}
end

structure It where
 go : Nat → Hp → Prop
 yld : Nat → Hp → V → Hp → Prop
 stop : Nat → Hp → Prop
noncomputable def FpOk (X : Cx) (pins : List (Addr × Obj)) (H : Hp) (b : Addr) : Prop :=
 H b = none ∧ b ≠ X.env.locals ∧ b ∉ X.fs ∧ (b ∈ X.ex ∨ X.s₀.heap.objs.size ≤ b) ∧ (∀ x c, X.env.cells.lookup x = some c → c ≠ b) ∧ ∀ p ∈ X.pn ++ pins, p.1 ≠ b
theorem Inv.fpOk {X : Cx} {pins : List (Addr × Obj)} {σ : St} {H H' : Hp} {s : Shared} {b : Addr} (I : Inv X pins σ H s) (hb : s.heap.objs.size ≤ b) (hn : H' b = none) : FpOk X pins H' b := by
 refine ⟨hn, Nat.ne_of_gt (Nat.lt_of_lt_of_le I.lt hb), I.nofs hb, .inr (Nat.le_trans I.sz hb), fun x c e z => ?_, fun p hp z => ?_⟩
 ·obtain ⟨v, q⟩ := I.cell x c e
  exact absurd (Nat.lt_of_lt_of_le q.lt (by rw [z]; exact hb)) (Nat.lt_irrefl _)
 ·exact absurd (Nat.lt_of_lt_of_le (Heap.lt_size (I.pin p hp).1) (by rw [z]; exact hb)) (Nat.lt_irrefl _)
structure Turn (P : Program) (w : World) (K : PySem.W.Frag) (tg : Expr) (J : It) (fp : List Addr) (it : Addr) (tn : Nat → Heap → Prop) : Prop where
 mem : it ∈ fp
 obj : ∀ i h, tn i h → ∀ b ∈ fp, ∃ o, h.get? b = some o ∧ ∀ v, o.data ≠ .cell v
 keep : ∀ i h h', tn i h → (∀ b ∈ fp, ∀ o, h.get? b = some o → h'.get? b = some o) → tn i h'
 item : ∀ (X : Cx), X.prog = P → X.w = w → X.K = K → X.calm = true → ∀ (i : Nat) (pins : List (Addr × Obj)) (s : Shared) (σ : St) (H : Hp) (E : Value → Shared → Prop), Inv X pins σ H s → (∀ b ∈ fp, FpOk X pins H b) → tn i s.heap → J.go i H →
  wpAny (model P w) X.A (pyNext (.ref it)) (fun r s1 => ∃ u, r = some u ∧
   wpAny (model P w) X.A (letOwnedTupleGo tg (.ref it) u) (fun _ s2 => ∃ x H', Inv X pins σ H' s2 ∧ RelV x u ∧ J.yld i H x H' ∧ tn (i + 1) s2.heap ∧ ∀ b ∈ fp, H' b = none) E s1) E s
 done : ∀ (X : Cx), X.prog = P → X.w = w → X.K = K → X.calm = true → ∀ (i : Nat) (pins : List (Addr × Obj)) (s : Shared) (σ : St) (H : Hp) (E : Value → Shared → Prop), Inv X pins σ H s → (∀ b ∈ fp, FpOk X pins H b) → tn i s.heap → J.stop i H →
  wpAny (model P w) X.A (pyNext (.ref it)) (fun r s1 => r = none ∧ Inv X pins σ H s1) E s
 self : ∀ (A : Around) (i : Nat) (s : Shared) (Q : Value → Shared → Prop) (E : Value → Shared → Prop), tn i s.heap → Q (.ref it) s → wpAny (model P w) A (pyIter (.ref it)) Q E s
noncomputable abbrev TI := St → Hp → (It → Hp → Prop) → Prop
noncomputable def PIE (X : Cx) (pins : List (Addr × Obj)) (σ : St) (tg : Expr) (R : It → Hp → Prop) (itv : Value) (s2 : Shared) : Prop :=
 ∃ (it : Addr) (fp : List Addr) (tn : Nat → Heap → Prop) (J : It) (H' : Hp), itv = .ref it ∧ Inv X pins σ H' s2 ∧ Turn X.prog X.w X.K tg J fp it tn ∧ tn 0 s2.heap ∧ (∀ b ∈ fp, FpOk X pins H' b) ∧ R J H'
noncomputable def PI (X : Cx) (tg iter : Expr) (wi : TI) : Prop :=
 ∀ (pins : List (Addr × Obj)) (s : Shared) (σ : St) (H : Hp) (R : It → Hp → Prop), Inv X pins σ H s → wi σ H R →
  wpAny (model X.prog X.w) X.A (eval iter X.env) (fun v s1 => wpAny (model X.prog X.w) X.A (pyIter v) (PIE X pins σ tg R) X.xe s1) X.xe s

theorem go_of {M : Model} {A : Around} {E : Value → Shared → Prop} {s : Shared} {tg : Expr} {it : Addr} {u : Value} {o : Obj} {n : String} {vs : Array Value} {Q : Unit → Shared → Prop} (ho : s.heap.get? it = some o) (hc : o.cls = .type n) (hd : o.data = .fields vs)
  (hn : ["enumerate", "zip", "dict_itemiterator", "dict_reverseitemiterator", "odict_iterator", "itertools.zip_longest", "itertools.pairwise"].contains n = false) (hQ : Q () s) : wpAny M A (letOwnedTupleGo tg (.ref it) u) Q E s := by
 unfold letOwnedTupleGo
 cases tg <;> first
  | exact wpAny_pure hQ
  | (cases u <;> first
      | exact wpAny_pure hQ
      | (refine wpAny_bind (wpAny_load ho ?_)
         rw [hc, hd]
         show wpAny M A (if (["enumerate", "zip", "dict_itemiterator", "dict_reverseitemiterator", "odict_iterator", "itertools.zip_longest", "itertools.pairwise"].contains n && vs[0]? == some (rawInt _)) = true then _ else _) Q E s
         rw [if_neg (by intro h; rw [hn, Bool.false_and] at h; cases h)]
         exact wpAny_pure hQ))
    
noncomputable def Itl (K : PySem.W.Frag) (a : Addr) : It :=
 ⟨fun i H => ∃ xs x, SqL K H a xs ∧ xs[i]? = some x, fun i H x H' => H' = H ∧ ∀ xs, SqL K H a xs → xs[i]? = some x, fun i H => ∃ xs, SqL K H a xs ∧ xs.length ≤ i⟩
noncomputable def Itt (K : PySem.W.Frag) (a : Addr) : It :=
 ⟨fun i H => ∃ xs x, SqT K H a xs ∧ xs[i]? = some x, fun i H x H' => H' = H ∧ ∀ xs, SqT K H a xs → xs[i]? = some x, fun i H => ∃ xs, SqT K H a xs ∧ xs.length ≤ i⟩
noncomputable def Itr (lo : Int) (n : Nat) : It := ⟨fun i _ => i < n, fun i H x H' => H' = H ∧ x = .int (lo + i), fun i _ => n ≤ i⟩
theorem turn_list {P : Program} {w : World} {K : PySem.W.Frag} {tg : Expr} (a it : Addr) : Turn P w K tg (Itl K a) [it] it (fun i h => h.IsListIter it a i) where
 mem := by simp
 obj := fun i h st b hb => by
  have e : b = it := by simpa using hb
  subst e
  obtain ⟨o, e, c, d⟩ := st
  exact ⟨o, e, fun v z => by rw [d] at z; cases z⟩
 keep := fun i h h' st k => st.at fun o e => k it (by simp) o e
 item := by
  intro X hP hw hK hc i pins s σ H E I hf st hg
  subst hP hw hK
  obtain ⟨xs, x, hq, hx⟩ := hg
  obtain ⟨its, rv, p, hz⟩ := I.list hq
  obtain ⟨u, hu, ru⟩ := rv.get hx
  obtain ⟨f0, f1, f2, f3, f4, f5⟩ := hf it (by simp)
  refine wpAny_pyNext_list_item st p.isList (x := u) (by simpa using hu) fun h' st' sb => ?_
  have I1 : Inv X pins σ H { s with heap := h' } := I.turned (t' := s.toks) (fun b o hb e => (sb.2 b hb).trans e) f0 f1 f3 f4 f5
  obtain ⟨o, e, c, d⟩ := id st'
  exact ⟨u, rfl, go_of (s := { s with heap := h' }) e c d (by decide) ⟨x, H, I1, ru, ⟨rfl, fun ys hy => by rw [I.list_inj hy hq]; exact hx⟩, st', fun b hb => (hf b hb).1⟩⟩
 done := by
  intro X hP hw hK hc i pins s σ H E I hf st hg
  subst hP hw hK
  obtain ⟨xs, hq, hx⟩ := hg
  obtain ⟨its, rv, p, hz⟩ := I.list hq
  obtain ⟨f0, f1, f2, f3, f4, f5⟩ := hf it (by simp)
  have hl := rv.length
  exact wpAny_pyNext_list_end (I.ok.hd hc) st p.isList (by simp; omega) fun h' eb => ⟨rfl, I.turned (t' := s.toks) (fun b o hb e => eb b o hb e) f0 f1 f3 f4 f5⟩
 self := fun _ _ _ _ _ st h => wpAny_pyIter_listiter st h
theorem turn_tuple {P : Program} {w : World} {K : PySem.W.Frag} {tg : Expr} (a it : Addr) : Turn P w K tg (Itt K a) [it] it (fun i h => h.IsTupleIter it a i) where
 mem := by simp
 obj := fun i h st b hb => by
  have e : b = it := by simpa using hb
  subst e
  obtain ⟨o, e, c, d⟩ := st
  exact ⟨o, e, fun v z => by rw [d] at z; cases z⟩
 keep := fun i h h' st k => st.at fun o e => k it (by simp) o e
 item := by
  intro X hP hw hK hc i pins s σ H E I hf st hg
  subst hP hw hK
  obtain ⟨xs, x, hq, hx⟩ := hg
  obtain ⟨its, rv, p, hz⟩ := I.tuple hq
  obtain ⟨u, hu, ru⟩ := rv.get hx
  obtain ⟨f0, f1, f2, f3, f4, f5⟩ := hf it (by simp)
  refine wpAny_pyNext_tuple_item st (show s.heap.IsTuple a its.toArray from p) (x := u) (by simpa using hu) fun h' st' sb => ?_
  have I1 : Inv X pins σ H { s with heap := h' } := I.turned (t' := s.toks) (fun b o hb e => (sb.2 b hb).trans e) f0 f1 f3 f4 f5
  obtain ⟨o, e, c, d⟩ := id st'
  exact ⟨u, rfl, go_of (s := { s with heap := h' }) e c d (by decide) ⟨x, H, I1, ru, ⟨rfl, fun ys hy => by rw [I.tuple_inj hy hq]; exact hx⟩, st', fun b hb => (hf b hb).1⟩⟩
 done := by
  intro X hP hw hK hc i pins s σ H E I hf st hg
  subst hP hw hK
  obtain ⟨xs, hq, hx⟩ := hg
  obtain ⟨its, rv, p, hz⟩ := I.tuple hq
  obtain ⟨f0, f1, f2, f3, f4, f5⟩ := hf it (by simp)
  have hl := rv.length
  exact wpAny_pyNext_tuple_end (I.ok.hd hc) st (show s.heap.IsTuple a its.toArray from p) (by simp; omega) fun h' eb => ⟨rfl, I.turned (t' := s.toks) (fun b o hb e => eb b o hb e) f0 f1 f3 f4 f5⟩
 self := fun _ _ _ _ _ st h => wpAny_pyIter_tupleiter st h
theorem turn_range {P : Program} {w : World} {K : PySem.W.Frag} {tg : Expr} (it : Addr) (lo : Int) (n : Nat) : Turn P w K tg (Itr lo n) [it] it (fun i h => IsRangeIter h it (lo + (i : Nat) * 1) ((n : Int) - (i : Nat)) 1) where
 mem := by simp
 obj := fun i h st b hb => by
  have e : b = it := by simpa using hb
  subst e
  exact ⟨_, st, fun v z => by
   have z' : Data.fields _ = Data.cell v := z
   cases z'⟩
 keep := fun i h h' st k => k it (by simp) _ st
 item := by
  intro X hP hw hK hc i pins s σ H E I hf st hg
  subst hP hw hK
  obtain ⟨f0, f1, f2, f3, f4, f5⟩ := hf it (by simp)
  have W := Walks.range (prog := X.prog) (w := X.w) (I.ok.hd hc) it lo 1 n
  refine W.item i s _ _ hg st fun v h' tk hv st' kk => ?_
  obtain ⟨t, rfl⟩ := hv
  have I1 : Inv X pins σ H { s with heap := h', toks := tk } := I.turned (fun b o hb e => kk b o (by simpa using hb) e) f0 f1 f3 f4 f5
  refine ⟨_, rfl, go_of (s := { s with heap := h', toks := tk }) (n := "range_iterator") st' rfl rfl (by decide) ⟨.int (lo + i), H, I1, ⟨t, ?_⟩, ⟨rfl, rfl⟩, st', fun b hb => (hf b hb).1⟩⟩
  rw [Int.mul_one]
 done := by
  intro X hP hw hK hc i pins s σ H E I hf st hg
  subst hP hw hK
  obtain ⟨f0, f1, f2, f3, f4, f5⟩ := hf it (by simp)
  exact wpAny_pyNext_range_end (I.ok.hd hc) st (by have : n ≤ i := hg; omega) fun h' eb => ⟨rfl, I.turned (t' := s.toks) (fun b o hb e => eb b o hb e) f0 f1 f3 f4 f5⟩
 self := fun _ _ _ _ _ st h => wpAny_pyIter_rangeiter st h
end L2

namespace L2
open PySem PySem.Spec PyProof.Rows
section
variable {X : Cx} {tg : Expr}
theorem range_it {pins : List (Addr × Obj)} {σ : St} {H : Hp} {s : Shared} {R : It → Hp → Prop} {E : Value → Shared → Prop} {lo hi : Int} {t u v : Tok} {tk : Nat} (I : Inv X pins σ H s) (h1 : -(2 ^ 62) ≤ lo) (h2 : lo < 2 ^ 62) (h3 : -(2 ^ 62) ≤ hi) (h4 : hi < 2 ^ 62)
  (q : R (Itr lo (hi - lo).toNat) H) : wpAny (model X.prog X.w) X.A (pyIter (.ref s.heap.objs.size)) (PIE X pins σ tg R) E { s with heap := s.heap.push { cls := .type "range", data := .fields #[.int lo t, .int hi u, .int 1 v] }, toks := tk } := by
 refine wpAny_pyIter_range (IsRange.new ..) (small_one h1 h2 h3 h4) ?_
 have I1 : Inv X pins σ H { s with heap := s.heap.push { cls := .type "range", data := .fields #[.int lo t, .int hi u, .int 1 v] }, toks := tk } := I.kept fun b o e => Heap.get?_push_of_some _ e
 refine ⟨(s.heap.push { cls := .type "range", data := .fields #[.int lo t, .int hi u, .int 1 v] }).objs.size, [(s.heap.push { cls := .type "range", data := .fields #[.int lo t, .int hi u, .int 1 v] }).objs.size], _, _, H, rfl,
  I1.kept (t' := tk) fun b o e => Heap.get?_push_of_some _ e, turn_range _ lo (hi - lo).toNat, ?_, fun b hb => ?_, q⟩
 ·have e1 : lo + ((0 : Nat) : Int) * 1 = lo := by simp
  have e2 : (((hi - lo).toNat : Nat) : Int) - ((0 : Nat) : Int) = Builtin.Range.rangeSize lo hi 1 := by rw [rangeSize_one]; split <;> omega
  show IsRangeIter _ _ (lo + ((0 : Nat) : Int) * 1) ((((hi - lo).toNat : Nat) : Int) - ((0 : Nat) : Int)) 1
  rw [e1, e2]
  exact Heap.get?_push_size _ rfl
 ·have e : b = (s.heap.push { cls := .type "range", data := .fields #[.int lo t, .int hi u, .int 1 v] }).objs.size := by simpa using hb
  subst e
  exact I1.fpOk (Nat.le_refl _) (I1.hok.fresh (Nat.le_refl _))
noncomputable def iRng1 (ta : TA) : TI := fun σ H R => ta σ H fun vs H1 => ∃ j : Int, vs = [.int j] ∧ -(2 ^ 62) ≤ j ∧ j < 2 ^ 62 ∧ R (Itr 0 j.toNat) H1
theorem pi_range1 {a : Expr} {ta : TA} {p pos : Pos} (hg : Gl X "range") (hm : X.mg "range" = none) (ha : PA X [a] ta) (hs : starEach [a] X.env = [(false, eval a X.env)] := by rfl) : PI X tg (.Call (.Name "range" p) [a] [] pos) (iRng1 ta) := by
 intro pins s σ H R I h
 refine Call_ (ld_blt I hg hm boot_range (PyProof.Rows.callWith_type1 (thn (ha pos pins s σ H _ I h) fun us s1 ⟨vs, H1, I1, r1, q1⟩ => ?_) hs rfl))
 obtain ⟨j, e, q1, q2, q⟩ := q1
 subst e
 cases r1 with
 | cons r rr =>
  cases rr
  obtain ⟨t, rfl⟩ := r
  exact call_range_1 (range_it I1 (by omega) (by omega) q1 q2 (by simpa using q))
noncomputable def tFor (wi : TI) (g : TG) (tb : TS) : TS := fun D σ H => wi σ H fun J H1 => ∃ W : Nat → Nat → St → Hp → Prop, (∃ m, W 0 m σ H1) ∧ ∀ i m σ H, W i m σ H →
 (J.stop i H ∧ D.nx σ H) ∨ (J.go i H ∧ ∃ N : St → Hp → Prop, (∀ σ' H', N σ' H' → ∃ m', m' < m ∧ W (i + 1) m' σ' H') ∧ ∀ x H', J.yld i H x H' → g x σ H' fun σ2 H2 => tb { D with nx := N, ct := N, bk := D.nx } σ2 H2)
noncomputable def pinsAt (fp : List Addr) (h : Heap) : List (Addr × Obj) := fp.filterMap fun b => (h.get? b).map fun o => (b, o)
theorem mem_pinsAt {fp : List Addr} {h : Heap} {b : Addr} {o : Obj} (hb : b ∈ fp) (e : h.get? b = some o) : (b, o) ∈ pinsAt fp h := List.mem_filterMap.mpr ⟨b, hb, by rw [e]; rfl⟩
theorem of_pinsAt {fp : List Addr} {h : Heap} {p : Addr × Obj} (hp : p ∈ pinsAt fp h) : p.1 ∈ fp ∧ h.get? p.1 = some p.2 := by
 obtain ⟨b, hb, e⟩ := List.mem_filterMap.mp hp
 cases q : h.get? b with
 | none => rw [q] at e; cases e
 | some o =>
  rw [q] at e
  have e' : (b, o) = p := Option.some.inj e
  subst e'
  exact ⟨hb, q⟩
theorem Inv.pinned {pins : List (Addr × Obj)} {σ : St} {H : Hp} {s : Shared} {fp : List Addr} (I : Inv X pins σ H s) (hf : ∀ b ∈ fp, FpOk X pins H b) (ho : ∀ b ∈ fp, ∃ o, s.heap.get? b = some o ∧ ∀ v, o.data ≠ .cell v) : Inv X (pins ++ pinsAt fp s.heap) σ H s :=
 I.pins_of fun p hp => (List.mem_append.mp hp).elim (fun z => I.pin p (List.mem_append_right _ z)) fun z => by
  obtain ⟨hb, e⟩ := of_pinsAt z
  obtain ⟨f0, f1, f2, _⟩ := hf p.1 hb
  obtain ⟨o, e', d⟩ := ho p.1 hb
  rw [e] at e'; cases e'
  exact ⟨e, f0, f1, f2, d⟩
theorem Inv.unpinned {pins pl : List (Addr × Obj)} {σ : St} {H : Hp} {s : Shared} (I : Inv X (pins ++ pl) σ H s) : Inv X pins σ H s := I.pins_of fun p hp => I.pin p (List.mem_append_right _ (List.mem_append_left _ hp))
theorem ps_for {iter : Expr} {body : List Stmt} {wi : TI} {g : TG} {tb : TS} {pos : Pos} (hp : PassesOwn (model X.prog X.w) X.A X.env X.xe) (hc : X.calm = true) (hi : PI X tg iter wi) (hg : PG X tg g) (hb : PSs X body tb)
  (hs : ∀ x, foldedSetIterable iter X.env x = pure x := by intro _; rfl) : PS X (.For tg iter body [] pos) (tFor wi g tb) := by
 intro pins s σ H D I h
 refine wpAny_For (thn (hi pins s σ H _ I h) fun v s1 h1 => thn h1 fun itv s2 h2 => ?_) hs
 obtain ⟨it, fp, tn, J, H2, e, I2, T, st2, f2, W, ⟨m0, w0⟩, turn⟩ := h2
 subst e
 -- what stays true of the iterator's objects through the loop
 have stat : ∀ {H' : Hp}, (∀ b ∈ fp, H' b = none) → ∀ b ∈ fp, FpOk X pins H' b := fun hn b hb => ⟨hn b hb, (f2 b hb).2⟩
 refine codeAny_forLoop_any (fun n s' => ∃ i σ' H', Inv X pins σ' H' s' ∧ tn i s'.heap ∧ (∀ b ∈ fp, H' b = none) ∧ W i n σ' H') ?_ m0 ⟨0, σ, H2, I2, st2, fun b hb => (f2 b hb).1, w0⟩
 rintro n s3 ⟨i, σ3, H3, I3, st3, fr3, w3⟩
 rcases turn i n σ3 H3 w3 with ⟨stop, qn⟩ | ⟨go, N, hN, step⟩
 ·refine wpAny_passesOwn hp (thn (T.done X rfl rfl rfl hc i pins s3 σ3 H3 X.xe I3 (stat fr3) st3 stop) fun r s4 ⟨hr, I4⟩ => ?_)
  subst hr
  exact wpAny_execs_nil ⟨σ3, H3, I4, qn⟩
 ·refine wpAny_passesOwn hp (thn (T.item X rfl rfl rfl hc i pins s3 σ3 H3 X.xe I3 (stat fr3) st3 go) fun r s4 ⟨u, hr, h4⟩ => ?_)
  subst hr
  refine wpAny_passesOwn hp (thn h4 fun _ s5 ⟨x, H5, I5, r5, y5, st5, fr5⟩ => ?_)
  have I5' := I5.pinned (stat fr5) (T.obj _ _ st5)
  refine wpAny_passesOwn hp (thn (hg _ s5 σ3 H5 x u _ I5' r5 (step x H5 y5)) fun _ s6 ⟨σ6, H6, I6, q6⟩ => ?_)
  refine wpAny_passesOwn hp (thn (hb _ s6 σ6 H6 _ I6 q6) fun f s7 q7 => ?_)
  have again : ∀ {σ7 : St} {H7 : Hp}, Inv X (pins ++ pinsAt fp s5.heap) σ7 H7 s7 → N σ7 H7 → ∃ m, m < n ∧ ∃ i σ' H', Inv X pins σ' H' s7 ∧ tn i s7.heap ∧ (∀ b ∈ fp, H' b = none) ∧ W i m σ' H' := fun {σ7 H7} I7 n7 => by
   obtain ⟨m', hm, w7⟩ := hN σ7 H7 n7
   refine ⟨m', hm, i + 1, σ7, H7, I7.unpinned, T.keep _ _ _ st5 fun b hb o e => (I7.pin (b, o) (List.mem_append_right _ (List.mem_append_right _ (mem_pinsAt hb e)))).1, fun b hb => ?_, w7⟩
   obtain ⟨o, e, d⟩ := T.obj _ _ st5 b hb
   exact (I7.pin (b, o) (List.mem_append_right _ (List.mem_append_right _ (mem_pinsAt hb e)))).2.1
  cases f with
  | next => obtain ⟨σ7, H7, I7, n7⟩ := q7; exact again I7 n7
  | cont => obtain ⟨σ7, H7, I7, n7⟩ := q7; exact again I7 n7
  | brk => obtain ⟨σ7, H7, I7, q7⟩ := q7; exact ⟨σ7, H7, I7.unpinned, q7⟩
  | ret v => obtain ⟨x7, σ7, H7, I7, r7, q7⟩ := q7; exact ⟨x7, σ7, H7, I7.unpinned, r7, q7⟩
end

end L2

namespace L2
open PySem PySem.Spec PyProof.Rows

noncomputable abbrev R2 := V → V → Hp → VK → Prop
noncomputable def OpR (X : Cx) (f : Value → Value → Sem Value) (r : R2) : Prop :=
 ∀ (pins : List (Addr × Obj)) (s : Shared) (σ : St) (H : Hp) (x y : V) (v u : Value) (Q : VK), Inv X pins σ H s → RelV x v → RelV y u → r x y H Q →
  wpAny (model X.prog X.w) X.A (f v u) (EP X pins σ Q) X.xe s
noncomputable def UnR (X : Cx) (f : Value → Sem Value) (r : V → Hp → VK → Prop) : Prop :=
 ∀ (pins : List (Addr × Obj)) (s : Shared) (σ : St) (H : Hp) (x : V) (v : Value) (Q : VK), Inv X pins σ H s → RelV x v → r x H Q →
  wpAny (model X.prog X.w) X.A (f v) (EP X pins σ Q) X.xe s
noncomputable def CallR (X : Cx) (f : Value) (r : List V → Hp → VK → Prop) : Prop :=
 ∀ (pins : List (Addr × Obj)) (s : Shared) (σ : St) (H : Hp) (xs : List V) (us : List Value) (Q : VK), Inv X pins σ H s → Vals xs us → r xs H Q →
  wpAny (model X.prog X.w) X.A (call f us) (EP X pins σ Q) X.xe s
noncomputable def TruR (X : Cx) (r : V → Hp → (Bool → Hp → Prop) → Prop) : Prop :=
 ∀ (pins : List (Addr × Obj)) (s : Shared) (σ : St) (H : Hp) (x : V) (v : Value) (Q : Bool → Hp → Prop), Inv X pins σ H s → RelV x v → r x H Q →
  wpAny (model X.prog X.w) X.A (truthy v) (TP X pins σ Q) X.xe s

noncomputable def tOp (r : R2) (ta tb : TE) : TE := fun σ H Q => ta σ H fun x H1 => tb σ H1 fun y H2 => r x y H2 Q
noncomputable def rI (C : Int → Int → Prop) (g : Int → Int → V) : R2 := fun x y H Q => ∃ i j, x = .int i ∧ y = .int j ∧ C i j ∧ Q (g i j) H
noncomputable def rI0 (g : Int → Int → V) : R2 := fun x y H Q => ∃ i j, x = .int i ∧ y = .int j ∧ Q (g i j) H
noncomputable def rU (g : Int → V) : V → Hp → VK → Prop := fun x H Q => ∃ i, x = .int i ∧ Q (g i) H

section
variable {X : Cx} {a b c : Expr} {ta tb tc : TE} {pos : Pos}

theorem binT (ha : PE X a ta) (hb : PE X b tb) {pins : List (Addr × Obj)} {s : Shared} {σ : St} {H : Hp} {R : V → V → Hp → Prop} (I : Inv X pins σ H s)
  (h : ta σ H fun x H1 => tb σ H1 fun y H2 => R x y H2) {Q : Value → Shared → Prop} {f : Value → Value → Sem Value}
  (hf : ∀ v u s2 x y H2, Inv X pins σ H2 s2 → RelV x v → RelV y u → R x y H2 → wpAny (model X.prog X.w) X.A (f v u) Q X.xe s2) :
  wpAny (model X.prog X.w) X.A (eval a X.env) (fun v s₁ => wpAny (model X.prog X.w) X.A (eval b X.env) (fun u s₂ => wpAny (model X.prog X.w) X.A (f v u) Q X.xe s₂) X.xe s₁) X.xe s := by
 refine thn (ha pins s σ H _ I h) fun v s1 ⟨x, H1, I1, r1, q1⟩ => ?_
 refine thn (hb pins s1 σ H1 _ I1 q1) fun u s2 ⟨y, H2, I2, r2, q2⟩ => ?_
 exact hf v u s2 x y H2 I2 r1 r2 q2

theorem pe_op {op : Operator} {r : R2} (ho : OpR X (binaryOp op) r) (ha : PE X a ta) (hb : PE X b tb) : PE X (.BinOp a op b pos) (tOp r ta tb) := by
 intro pins s σ H Q I h
 exact wpAny_BinOp (binT ha hb I h fun v u s2 x y H2 I2 rx ry q => ho pins s2 σ H2 x y v u Q I2 rx ry q)
theorem opI {f : Value → Value → Sem Value} {C : Int → Int → Prop} {g : Int → Int → Int}
  (rule : ∀ (i j : Int) (t u : Tok) (s : Shared) (Q : Value → Shared → Prop) (E : Value → Shared → Prop), C i j → Q (.int (g i j) s.toks) { s with toks := s.toks + 1 } → wpAny (model X.prog X.w) X.A (f (.int i t) (.int j u)) Q E s) :
  OpR X f (rI C fun i j => .int (g i j)) := by
 intro pins s σ H x y v u Q I rx ry h
 obtain ⟨i, j, rfl, rfl, hc, q⟩ := h
 obtain ⟨t, rfl⟩ := rx
 obtain ⟨t', rfl⟩ := ry
 exact rule i j t t' s _ _ hc ⟨.int (g i j), H, I.tok _, ⟨_, rfl⟩, q⟩
theorem opI0 {f : Value → Value → Sem Value} {g : Int → Int → Int}
  (rule : ∀ (i j : Int) (t u : Tok) (s : Shared) (Q : Value → Shared → Prop) (E : Value → Shared → Prop), Q (.int (g i j) s.toks) { s with toks := s.toks + 1 } → wpAny (model X.prog X.w) X.A (f (.int i t) (.int j u)) Q E s) :
  OpR X f (rI0 fun i j => .int (g i j)) := by
 intro pins s σ H x y v u Q I rx ry h
 obtain ⟨i, j, rfl, rfl, q⟩ := h
 obtain ⟨t, rfl⟩ := rx
 obtain ⟨t', rfl⟩ := ry
 exact rule i j t t' s _ _ ⟨.int (g i j), H, I.tok _, ⟨_, rfl⟩, q⟩
theorem opB0 {f : Value → Value → Sem Value} {g : Int → Int → Bool}
  (rule : ∀ (i j : Int) (t u : Tok) (s : Shared) (Q : Value → Shared → Prop) (E : Value → Shared → Prop), Q (.bool (g i j)) s → wpAny (model X.prog X.w) X.A (f (.int i t) (.int j u)) Q E s) :
  OpR X f (rI0 fun i j => .bl (g i j)) := by
 intro pins s σ H x y v u Q I rx ry h
 obtain ⟨i, j, rfl, rfl, q⟩ := h
 obtain ⟨t, rfl⟩ := rx
 obtain ⟨t', rfl⟩ := ry
 exact rule i j t t' s _ _ ⟨.bl (g i j), H, I, rfl, q⟩

noncomputable def CDiv (i j : Int) : Prop := 0 < j ∧ j < 1073741824
noncomputable def CPow (i j : Int) : Prop := 0 ≤ j ∧ j ≤ 1000000 ∧ i.natAbs < 2 ^ 64
noncomputable def CMul (i j : Int) : Prop := (-(2 ^ 64) < i ∧ i < 2 ^ 64) ∨ (-(2 ^ 64) < j ∧ j < 2 ^ 64)
theorem CMul.ok {i j : Int} (h : CMul i j) : IntMulOk i j := by
 rcases h with ⟨h1, h2⟩ | ⟨h1, h2⟩
 ·exact .of_left (intBits_le_64 h1 h2)
 ·exact .of_right (intBits_le_64 h1 h2)
theorem op_add : OpR X (binaryOp .Add) (rI0 fun i j => .int (i + j)) := opI0 fun _ _ _ _ _ _ _ q => add_int q
theorem op_sub : OpR X (binaryOp .Sub) (rI0 fun i j => .int (i - j)) := opI0 fun _ _ _ _ _ _ _ q => sub_int q
theorem op_mul : OpR X (binaryOp .Mult) (rI CMul fun i j => .int (i * j)) := opI fun _ _ _ _ _ _ _ hc q => mul_int q hc.ok
theorem op_fdiv : OpR X (binaryOp .FloorDiv) (rI CDiv fun i j => .int (i / j)) := opI fun i j _ _ _ _ _ hc q => by
 have h1 : (0 : Int) < j := hc.1
 have h2 : j < 1073741824 := hc.2
 exact floordiv_int (by omega) (by rw [Int.fdiv_eq_ediv_of_nonneg i (by omega)]; exact q) (.inl (PyProof.noPylong_small (by omega)))
theorem op_mod : OpR X (binaryOp .Mod) (rI (fun _ j => 0 < j) fun i j => .int (i % j)) := opI fun i j _ _ _ _ _ hc q => by
 have h1 : (0 : Int) < j := hc
 exact mod_int' (by omega) (by rw [Int.fmod_eq_emod_of_nonneg i (by omega)]; exact q)
theorem op_pow : OpR X (binaryOp .Pow) (rI CPow fun i j => .int (i ^ j.toNat)) := opI fun _ _ _ _ _ _ _ hc q => pow_int_small hc.1 hc.2.1 hc.2.2 q
theorem iop_add : OpR X (inplaceOp .Add) (rI0 fun i j => .int (i + j)) := opI0 fun _ _ _ _ _ _ _ q => iadd_int q
theorem unI {f : Value → Sem Value} {g : Int → Int}
  (rule : ∀ (i : Int) (t : Tok) (s : Shared) (Q : Value → Shared → Prop) (E : Value → Shared → Prop), Q (.int (g i) s.toks) { s with toks := s.toks + 1 } → wpAny (model X.prog X.w) X.A (f (.int i t)) Q E s) :
  UnR X f (rU fun i => .int (g i)) := by
 intro pins s σ H x v Q I rx h
 obtain ⟨i, rfl, q⟩ := h
 obtain ⟨t, rfl⟩ := rx
 exact rule i t s _ _ ⟨.int (g i), H, I.tok _, ⟨_, rfl⟩, q⟩
theorem un_neg : UnR X (unaryOp .USub) (rU fun i => .int (-i)) := unI fun _ _ _ _ _ q => neg_int q
end

section
variable {X : Cx} {a b c : Expr} {ta tb tc : TE} {pos : Pos}
theorem op_lt : OpR X (compareOp .Lt) (rI0 fun i j => .bl (decide (i < j))) := opB0 fun _ _ _ _ _ _ _ q => lt_int q
theorem op_le : OpR X (compareOp .LtE) (rI0 fun i j => .bl (decide (i ≤ j))) := opB0 fun _ _ _ _ _ _ _ q => le_int q
theorem op_gt : OpR X (compareOp .Gt) (rI0 fun i j => .bl (decide (j < i))) := opB0 fun _ _ _ _ _ _ _ q => gt_int q
theorem op_ge : OpR X (compareOp .GtE) (rI0 fun i j => .bl (decide (j ≤ i))) := opB0 fun _ _ _ _ _ _ _ q => ge_int q
noncomputable def TruV (K : PySem.W.Frag) (x : V) (H : Hp) (k : Bool) : Prop :=
 match x with
 | .non => k = false
 | .bl b => k = b
 | .int i => k = (i != 0)
 | .str y => y.length ≤ sizeLine ∧ k = ((y.length : Int) != 0)
 | .byt y => y.size ≤ sizeLine ∧ k = ((y.size : Int) != 0)
 | .ref p => (∃ xs, SqL K H p xs ∧ k = !xs.isEmpty) ∨ (∃ xs, SqT K H p xs ∧ k = !xs.isEmpty) ∨ ∃ kvs, H p = some (.dK kvs) ∧ k = !kvs.isEmpty
 | _ => False
theorem isEmpty_kv {κ : Type} {kvs : List (κ × V)} {vs : List (κ × Value)} (r : KV kvs vs) : (!vs.isEmpty) = !kvs.isEmpty := by
 cases r <;> rfl
theorem isEmpty_of {xs : List V} {its : List Value} (r : Vals xs its) : (!its.toArray.isEmpty) = !xs.isEmpty := by
 cases r <;> simp
theorem line63 : (sizeLine : Nat) < 2 ^ 63 := by rw [sizeLine_eq]; decide
theorem tru_ok : TruR X (fun x H Q => ∃ k, TruV X.K x H k ∧ Q k H) := by
 intro pins s σ H x v Q I rx h
 obtain ⟨k, e, q⟩ := h
 have hl := line63
 have hs : sizeLine = 16777216 := sizeLine_eq
 cases x with
 | non =>
  cases rx
  have e' : k = false := e
  subst e'
  exact truthy_none ⟨H, I, q⟩
 | bl b =>
  cases rx
  have e' : k = b := e
  subst e'
  exact wpAny_truthy_bool ⟨H, I, q⟩
 | int i =>
  obtain ⟨t, rfl⟩ := rx
  have e' : k = (i != 0) := e
  subst e'
  exact PySem.P.truthy_int ⟨H, I, q⟩
 | str y =>
  obtain ⟨t, rfl⟩ := rx
  obtain ⟨hy, e'⟩ : y.length ≤ sizeLine ∧ k = ((y.length : Int) != 0) := e
  subst e'
  exact PySem.P.truthy_str (by omega) ⟨H, I.tok _, q⟩
 | byt y =>
  obtain ⟨t, rfl⟩ := rx
  obtain ⟨hy, e'⟩ : y.size ≤ sizeLine ∧ k = ((y.size : Int) != 0) := e
  subst e'
  exact PySem.W.truthy_bytes (by omega) ⟨H, I.tok _, q⟩
 | ref p =>
  cases rx
  have e' : (∃ xs, SqL X.K H p xs ∧ k = !xs.isEmpty) ∨ (∃ xs, SqT X.K H p xs ∧ k = !xs.isEmpty) ∨ ∃ kvs, H p = some (.dK kvs) ∧ k = !kvs.isEmpty := e
  rcases e' with ⟨xs, hx, e'⟩ | ⟨xs, hx, e'⟩ | ⟨kvs, hx, e'⟩
  ·subst e'
   obtain ⟨its, r, pl, hz⟩ := I.list hx
   have hlen := r.length
   exact wpAny_truthy_list pl.isList (by simp only [List.size_toArray]; omega) ⟨H, I.tok _, by rw [isEmpty_of r]; exact q⟩
  ·subst e'
   obtain ⟨its, r, pl, hz⟩ := I.tuple hx
   have hlen := r.length
   exact truthy_tuple pl (by simp only [List.size_toArray]; omega) ⟨H, I.tok _, by rw [isEmpty_of r]; exact q⟩
  ·subst e'
   obtain ⟨hz, hS, vs, r, m⟩ : kvs.length ≤ sizeLine ∧ (p == sysModules) = false ∧ ∃ vs, KV kvs vs ∧ s.heap.DictOf (mixKind X.prog X.w) p vs := I.hok p _ hx
   have hlen : kvs.length = vs.length := Paired.length r
   exact wpAny_truthy_dict hS m (by omega) ⟨H, I.tok _, by rw [isEmpty_kv r]; exact q⟩
 | _ => exact (show False from e).elim
theorem op_add_str : OpR X (binaryOp .Add) (fun x y H Q => ∃ i j, x = .str i ∧ y = .str j ∧ i.length + j.length ≤ sizeLine ∧ Q (.str (i ++ j)) H) := by
 intro pins s σ H x y v u Q I rx ry h
 obtain ⟨i, j, rfl, rfl, hz, q⟩ := h
 obtain ⟨t, rfl⟩ := rx
 obtain ⟨t', rfl⟩ := ry
 exact add_str (fun t' tk => ⟨.str (i ++ j), H, I.tok _, ⟨_, rfl⟩, q⟩) hz
theorem iop_add_str : OpR X (inplaceOp .Add) (fun x y H Q => ∃ i j, x = .str i ∧ y = .str j ∧ i.length + j.length ≤ sizeLine ∧ Q (.str (i ++ j)) H) := by
 intro pins s σ H x y v u Q I rx ry h
 obtain ⟨i, j, rfl, rfl, hz, q⟩ := h
 obtain ⟨t, rfl⟩ := rx
 obtain ⟨t', rfl⟩ := ry
 exact iadd_str (fun t' tk => ⟨.str (i ++ j), H, I.tok _, ⟨_, rfl⟩, q⟩) hz
theorem vals1 {x : V} {us : List Value} (r : Vals [x] us) : ∃ u, us = [u] ∧ RelV x u := by
 cases r with
 | cons r1 r2 => cases r2; exact ⟨_, rfl, r1⟩
theorem vals2 {x y : V} {us : List Value} (r : Vals [x, y] us) : ∃ u w', us = [u, w'] ∧ RelV x u ∧ RelV y w' := by
 cases r with
 | cons r1 r2 =>
  cases r2 with
  | cons r3 r4 => cases r4; exact ⟨_, _, rfl, r1, r3⟩
theorem call_min2 (hc : X.calm = true) : CallR X (.builtin "min") (fun xs H Q => ∃ i j, xs = [.int i, .int j] ∧ Q (.int (if j < i then j else i)) H) := by
 intro pins s σ H xs us Q I r h
 obtain ⟨i, j, rfl, q⟩ := h
 obtain ⟨u, w', rfl, ⟨t, rfl⟩, ⟨t', rfl⟩⟩ := vals2 r
 refine min_two_ints (I.ok.hd hc) fun h' tk k => ⟨_, H, I.kept k, ?_, q⟩
 by_cases hj : j < i
 ·rw [if_pos hj, if_pos hj]; exact ⟨_, rfl⟩
 ·rw [if_neg hj, if_neg hj]; exact ⟨_, rfl⟩
theorem call_int1 : CallR X (.type "int") (fun xs H Q => (∃ i, xs = [.int i] ∧ Q (.int i) H) ∨ ∃ k, xs = [.bl k] ∧ Q (.int (if k then 1 else 0)) H) := by
 intro pins s σ H xs us Q I r h
 rcases h with ⟨i, rfl, q⟩ | ⟨k, rfl, q⟩
 ·obtain ⟨u, rfl, t, rfl⟩ := vals1 r
  exact call_int_int ⟨.int i, H, I, ⟨_, rfl⟩, q⟩
 ·obtain ⟨u, rfl, r1⟩ := vals1 r
  cases r1
  exact call_int_bool ⟨.int (if k then 1 else 0), H, I.tok _, ⟨_, rfl⟩, q⟩
theorem call_ord : CallR X (.builtin "ord") (fun xs H Q => ∃ x, xs = [.str x] ∧ x.length = 1 ∧ Q (.int (x.cps.getD 0 0 : Nat)) H) := by
 intro pins s σ H xs us Q I r h
 obtain ⟨x, rfl, hz, q⟩ := h
 obtain ⟨u, rfl, t, rfl⟩ := vals1 r
 exact ord_of_one hz ⟨.int _, H, I.tok _, ⟨_, rfl⟩, q⟩
noncomputable def LenV (K : PySem.W.Frag) (x : V) (H : Hp) (n : Nat) : Prop :=
 match x with
 | .str y => y.length ≤ sizeLine ∧ n = y.length
 | .byt y => y.size ≤ sizeLine ∧ n = y.size
 | .ref p => (∃ xs, SqL K H p xs ∧ n = xs.length) ∨ ∃ xs, SqT K H p xs ∧ n = xs.length
 | _ => False
theorem call_len : CallR X (.builtin "len") (fun xs H Q => ∃ x n, xs = [x] ∧ LenV X.K x H n ∧ Q (.int n) H) := by
 intro pins s σ H xs us Q I r h
 obtain ⟨x, n, rfl, e, q⟩ := h
 obtain ⟨u, rfl, rx⟩ := vals1 r
 have hl := line63
 have hs : sizeLine = 16777216 := sizeLine_eq
 cases x with
 | str y =>
  obtain ⟨t, rfl⟩ := rx
  obtain ⟨hy, e'⟩ : y.length ≤ sizeLine ∧ n = y.length := e
  subst e'
  exact len_str (by omega) ⟨.int _, H, I.tok _, ⟨_, rfl⟩, q⟩
 | byt y =>
  obtain ⟨t, rfl⟩ := rx
  obtain ⟨hy, e'⟩ : y.size ≤ sizeLine ∧ n = y.size := e
  subst e'
  exact PySem.W.len_bytes (by omega) ⟨.int _, H, I.tok _, ⟨_, rfl⟩, q⟩
 | ref p =>
  cases rx
  have e' : (∃ xs, SqL X.K H p xs ∧ n = xs.length) ∨ ∃ xs, SqT X.K H p xs ∧ n = xs.length := e
  rcases e' with ⟨xs, hx, e'⟩ | ⟨xs, hx, e'⟩
  ·subst e'
   obtain ⟨its, r', pl, hz⟩ := I.list hx
   have hlen := r'.length
   exact Calls.call_len_list pl.isList (by simp only [List.size_toArray]; omega) ⟨.int xs.length, H, I.tok _, ⟨_, by simp only [List.size_toArray]; rw [hlen]⟩, q⟩
  ·subst e'
   obtain ⟨its, r', pl, hz⟩ := I.tuple hx
   have hlen := r'.length
   exact len_tuple pl (by simp only [List.size_toArray]; omega) ⟨.int xs.length, H, I.tok _, ⟨_, by simp only [List.size_toArray]; rw [hlen]⟩, q⟩
 | _ => exact (show False from e).elim
end
end L2

namespace L2
open PySem PySem.Spec PyProof.Rows

structure ObjM (h : Heap) (x dx C : Addr) (mA : Str → Option Value) : Prop where
 obj : h.get? x = some (PySem.W.instObj C dx)
 ns : h.Ns1 dx mA
 ne : dx ≠ x

section
variable {prog : Program} {w : World} {A : Around} {E : Value → Shared → Prop} {s : Shared} {K : PySem.W.Frag} {x dx C f : Addr} {mA : Str → Option Value} {name : Str} {v : Value}

end

section
variable {P : Program} {w : World} {H H' : Hp} {h h' : Heap} {a C dx : Addr} {fs fs' : List (Str × V)}
end

structure Cls (K : PySem.W.Frag) (C : Addr) : Prop where
 pg : PySem.W.plainGet K C Str.empty = true
 hd : PySem.W.hasDictIn K C = true
 po : PySem.W.plainOver K C = true
 sa : PySem.W.findIn K (.ref C) "__setattr__" = some (some (.builtin "object.__setattr__"))
structure Con (K : PySem.W.Frag) (C : Addr) (f : Str) (v : V) (u : Value) : Prop where
 at_ : PySem.W.findIn K (.ref C) f = some (some u)
 rel : RelV v u
 get : PySem.W.specialIn K u "__get__" = some none
 cp : PySem.W.copiedNames.contains f = false
structure Meth (K : PySem.W.Frag) (C : Addr) (m : Str) (f : Addr) : Prop where
 at_ : PySem.W.findIn K (.ref C) m = some (some (.ref f))
 fn : PySem.W.isFn K (.ref f) = true
 kp : PySem.W.keepIn K (.ref f) = true

section
variable {X : Cx} {pins : List (Addr × Obj)} {σ : St} {H : Hp} {s : Shared} {a C dx : Addr} {fs : List (Str × V)} {f : Str} {v : V} {A : Around} {E : Value → Shared → Prop}

end

section
variable {X : Cx} {o e value : Expr} {f : Str} {pos pos' tpos : Pos} {ta tv : TE}
end

section
variable {X : Cx} {pins : List (Addr × Obj)} {σ : St} {H : Hp} {s : Shared} {A : Around} {E : Value → Shared → Prop} {Q : Value → Shared → Prop} {c : Value} {b : Bool}
inductive TyOf (K : PySem.W.Frag) (H : Hp) : V → Value → Prop where
 | non : TyOf K H .non (.type "NoneType")
 | bl (x : Bool) : TyOf K H (.bl x) (.type "bool")
 | int (i : Int) : TyOf K H (.int i) (.type "int")
 | str (x : Str) : TyOf K H (.str x) (.type "str")
 | flt (x : UInt64) : TyOf K H (.flt x) (.type "float")
 | lst {a : Addr} {xs : List V} (e : H a = some (.lst xs)) : TyOf K H (.ref a) (.type "list")
 | frz {a : Addr} {o : Obj} {xs : List V} (e : H a = some (.frz o (.lst xs))) : TyOf K H (.ref a) (.type "list")
 | tup {a : Addr} {xs : List V} (e : H a = some (.tup xs)) : TyOf K H (.ref a) (.type "tuple")
 | dK {a : Addr} {kvs : List (Key × V)} (e : H a = some (.dK kvs)) : TyOf K H (.ref a) (.type "dict")
 | dT {a : Addr} {kvs : List (List Key × V)} (e : H a = some (.dT kvs)) : TyOf K H (.ref a) (.type "dict")
 | ins {a C dx : Addr} {fs : List (Str × V)} (e : H a = some (.ins C dx fs)) (cl : Cls K C) (ha : PySem.W.findIn K (.ref C) "__class__" = some (some (.builtin "object.__class__")))
   (hn : PySem.W.specialIn K (.builtin "object.__class__") "__get__" = some (some (.builtin "getset_descriptor.__get__"))) (htk : PySem.W.takesIn K (.builtin "object.__class__") = some true)
   (hm : PySem.W.mroIn K C (.type "object") = some true) : TyOf K H (.ref a) (.ref C)
end
end L2

namespace L2
open PySem PySem.Spec PyProof.Rows

structure Room (k : Nat) (A : Around) : Prop where
 hd : A.handled = none
 dp : A.depth + 3 * k + 5 < recursionLimit
 un : A.units + 16 * k + 200 < cLine
theorem Room.mono {j k : Nat} {A : Around} (r : Room k A) (h : j ≤ k) : Room j A := ⟨r.hd, by have := r.dp; omega, by have := r.un; omega⟩
theorem Room.deeper {k : Nat} {A : Around} (r : Room (k + 1) A) (env : Env) : Room k (A.deeper env) :=
 ⟨r.hd, by have := r.dp; show A.depth + 1 + 3 * k + 5 < _; omega, by have := r.un; show A.units + 3 + 16 * k + 200 < _; omega⟩
theorem Room.depth {k : Nat} {A : Around} (r : Room k A) : A.depth < recursionLimit := by have := r.dp; omega
theorem Room.units {k : Nat} {A : Around} (r : Room k A) : A.units + 64 < cLine := by have := r.un; omega
noncomputable def tNil : TA := fun _ H Q => Q [] H
noncomputable def tCons (ta : TE) (tr : TA) : TA := fun σ H Q => ta σ H fun x H1 => tr σ H1 fun xs H2 => Q (x :: xs) H2
section
variable {X : Cx} {e : Expr} {es : List Expr} {te : TE} {t : TA} {pos : Pos}
theorem pa_nil : PA X [] tNil := fun _ _ _ _ H Q I h => Calls.spliced_nil ⟨[], H, I, .nil, h⟩
theorem pa_cons (ha : PE X e te) (hr : PA X es t) (hs : starEach (e :: es) X.env = (false, eval e X.env) :: starEach es X.env := by rfl) : PA X (e :: es) (tCons te t) := by
 intro pos pins s σ H Q I h
 rw [hs]
 show wpAny _ _ (spliced ((false, eval e X.env) :: backTo pos (starEach es X.env))) _ _ s
 refine Calls.spliced_cons (thn (ha pins s σ H _ I h) fun u s1 ⟨x, H1, I1, r1, q1⟩ => ?_)
 exact thn (hr pos pins s1 σ H1 _ I1 q1) fun us s2 ⟨xs, H2, I2, r2, q2⟩ => ⟨x :: xs, H2, I2, .cons r1 r2, q2⟩

noncomputable def tTup (t : TA) : TE := fun σ H Q => t σ H fun xs H1 => xs.length ≤ sizeLine ∧ ∀ p, H1 p = none → Q (.ref p) (upd H1 p (.tup xs))
noncomputable def tLst (t : TA) : TE := fun σ H Q => t σ H fun xs H1 => xs.length ≤ sizeLine ∧ ∀ p, H1 p = none → Q (.ref p) (upd H1 p (.lst xs))
theorem pe_tup {x1} (h : PA X es t) : PE X (.Tuple es x1 pos) (tTup t) := by
 intro pins s σ H Q I hq
 refine wpAny_Tuple_spliced (thn (h pos pins s σ H _ I hq) fun us s1 ⟨xs, H1, I1, r, z, q⟩ => ⟨by rw [← r.length]; exact z, ?_⟩)
 have hf : H1 s1.heap.objs.size = none := I1.hok.fresh (Nat.le_refl _)
 refine ⟨.ref s1.heap.objs.size, upd H1 s1.heap.objs.size (.tup xs), I1.laid (t' := s1.toks) (fun b u e => Heap.get?_push_of_some _ e) (Nat.le_refl _) ?_, rfl, q _ hf⟩
 exact ⟨z, us, r, ⟨_, Heap.get?_push_size _ rfl, rfl, _, rfl⟩⟩
theorem pe_lst (h : PA X es t) : PE X (.List es pos) (tLst t) := by
 intro pins s σ H Q I hq
 refine wpAny_List_spliced (thn (h pos pins s σ H _ I hq) fun us s1 ⟨xs, H1, I1, r, z, q⟩ => ⟨by rw [← r.length]; exact z, ?_⟩)
 have hf : H1 s1.heap.objs.size = none := I1.hok.fresh (Nat.le_refl _)
 refine ⟨.ref s1.heap.objs.size, upd H1 s1.heap.objs.size (.lst xs), I1.laid (t' := s1.toks) (fun b u e => Heap.get?_push_of_some _ e) (Nat.le_refl _) ?_, rfl, q _ hf⟩
 exact ⟨z, us, 0, r, Heap.get?_push_size _ rfl⟩
end

noncomputable abbrev Sp := List V → Hp → VK → XK → Prop
noncomputable abbrev CXT := List Env → Hp → Shared → XK → Value → Shared → Prop

structure Env0 (P : Program) (w : World) (K : PySem.W.Frag) (mg : Str → Option Value) (base : Heap) (A : Around) (outer : List Env) (s : Shared) (H : Hp) : Prop where
 frames : A.frames = some outer
 mod : Mod K mg base
 bs : ∀ b o, base.get? b = some o → s.heap.get? b = some o ∧ H b = none
 bsz : base.objs.size ≤ s.heap.objs.size
 funs : s.heap.FunFrames base outer
 frf : ∀ b ∈ frs outer, H b = none
 hok : HOk P w H s.heap
 bare : AllBare s.gens
noncomputable def CE (outer : List Env) (P : Program) (w : World) (H : Hp) (s : Shared) (Q : VK) (u : Value) (s' : Shared) : Prop :=
 ∃ v H', s'.os = s.os ∧ AllBare s'.gens ∧ Un (frs outer) [] H H' s.heap s'.heap ∧ HOk P w H' s'.heap ∧ RelV v u ∧ Q v H'
noncomputable def CR (CX : CXT) (outer : List Env) (P : Program) (w : World) (H : Hp) (s : Shared) (Q : VK) (E : XK) (r : Result) (s' : Shared) : Prop :=
 match r with
 | .ok (.ret u) => CE outer P w H s Q u s'
 | .ok _ => False
 | .error e => CX outer H s E e s'
structure FnOk (P : Program) (w : World) (K : PySem.W.Frag) (mg : Str → Option Value) (base : Heap) (CX : CXT) (k : Nat) (f : Addr) (fd : FuncData) (ps : List Str) (sp : Sp) : Prop where
 len : ∀ vs H Q E, sp vs H Q E → vs.length = ps.length
 run : ∀ (A : Around) (outer : List Env) (s : Shared) (H : Hp) (args : Args) (us : List Value) (vs : List V) (Q : VK) (E : XK), Room k A → Env0 P w K mg base A outer s H → BindsTo s fd args (ps.zip us) → Vals vs us → sp vs H Q E →
  codeAny (model P w) A (.call (.ref f) args) (CR CX outer P w H s Q E) s
theorem FnOk.imp {P : Program} {w : World} {K : PySem.W.Frag} {mg : Str → Option Value} {base : Heap} {CX : CXT} {k : Nat} {f : Addr} {fd : FuncData} {ps : List Str} {sp sp' : Sp} (F : FnOk P w K mg base CX k f fd ps sp)
  (h : ∀ vs H Q E, sp' vs H Q E → sp vs H Q E) : FnOk P w K mg base CX k f fd ps sp' :=
 ⟨fun vs H Q E q => F.len vs H Q E (h _ _ _ _ q), fun A outer s H args us vs Q E hr he hb hv hs => F.run A outer s H args us vs Q E hr he hb hv (h _ _ _ _ hs)⟩

section
variable {X : Cx} {pins : List (Addr × Obj)} {σ : St} {H : Hp} {s s' : Shared}
theorem Inv.env0 (I : Inv X pins σ H s) : Env0 X.prog X.w X.K X.mg X.base X.A X.stack s H :=
 ⟨I.ok.frames, I.ok.mod, I.bs, Nat.le_trans I.ok.bsz I.sz, I.stack, I.stkFree, I.hok, I.bare⟩
theorem Inv.after {Q : VK} {u : Value} (I : Inv X pins σ H s) (h : CE X.stack X.prog X.w H s Q u s') : EP X pins σ Q u s' := by
 obtain ⟨v, H', os, bare, un, hok, r, q⟩ := h
 obtain ⟨hh, g, d, t, os'⟩ := s'
 obtain rfl : os' = s.os := os
 exact ⟨v, H', I.call (h' := hh) (g' := g) (d' := d) (t' := t) (ch := []) un hok bare (fun b z => absurd z (by simp)), r, q⟩
end

noncomputable def tCall (sp : Sp) (dvs : List V) (E : XK) (t : TA) : TE := fun σ H Q => t σ H fun vs H1 => sp (vs ++ dvs) H1 Q E
noncomputable def Binds (K : PySem.W.Frag) (fd : FuncData) (ps : List Str) (ds : List Value) : Prop :=
 ∀ (s : Shared) (us : List Value), K.In s.heap → (us ++ ds).length = ps.length → BindsTo s fd ⟨us, []⟩ (ps.zip (us ++ ds))
theorem Binds.all {K : PySem.W.Frag} {fd : FuncData} {ps : List Str} (h : ∀ us : List Value, us.length = ps.length → bindArgs fd ⟨us, []⟩ = pure (ps.zip us)) : Binds K fd ps [] := fun s us _ hl => by
 rw [List.append_nil] at hl ⊢
 exact .of_eq (h us hl)

noncomputable def Passes (CX : CXT) (X : Cx) (E : XK) : Prop := ∀ (pins : List (Addr × Obj)) (σ : St) (H : Hp) (s : Shared) (e : Value) (s' : Shared), Inv X pins σ H s → CX X.stack H s E e s' → X.xe e s'

section
variable {X : Cx} {CX : CXT} {k : Nat} {f C : Addr} {fd : FuncData} {ps : List Str} {sp : Sp} {dvs : List V} {ds : List Value} {E : XK} {x m : Str} {p pos apos : Pos} {e o : Expr} {es : List Expr} {ta : TE} {t : TA}

theorem run_fn {pins : List (Addr × Obj)} {σ : St} {H : Hp} {s : Shared} {Q : VK} {us : List Value} {vs : List V} (F : FnOk X.prog X.w X.K X.mg X.base CX k f fd ps sp) (hr : Room k X.A) (hb : Binds X.K fd ps ds) (hd : Vals dvs ds) (hx : Passes CX X E)
  (I : Inv X pins σ H s) (r : Vals vs us) (h : sp (vs ++ dvs) H Q E) : wpAny (model X.prog X.w) X.A (call (.ref f) us) (EP X pins σ Q) X.xe s := by
 have r2 : Vals (vs ++ dvs) (us ++ ds) := r.append hd
 have hl : (us ++ ds).length = ps.length := by rw [← r2.length]; exact F.len _ _ _ _ h
 refine wpAny_call (codeAny_mono (F.run X.A X.stack s H ⟨us, []⟩ (us ++ ds) (vs ++ dvs) Q E hr I.env0 (hb s us I.kIn hl) r2 h) fun r s' hq => ?_)
 cases r with
 | error e => exact hx pins σ H s e s' I hq
 | ok fl =>
  cases fl with
  | ret u => exact I.after hq
  | next => exact False.elim hq
  | brk => exact False.elim hq
  | cont => exact False.elim hq

theorem pe_call (F : FnOk X.prog X.w X.K X.mg X.base CX k f fd ps sp) (hr : Room k X.A) (hg : Gl X x) (hm : X.mg x = some (.ref f)) (hk : PySem.W.keepIn X.K (.ref f) = true) (hb : Binds X.K fd ps ds) (hd : Vals dvs ds) (hx : Passes CX X E)
  (ha : PA X (e :: es) t) (hdb : (x == ("__debug__" : Str)) = false := by decide) (he : starEach (e :: es) X.env = (false, eval e X.env) :: starEach es X.env := by rfl) (hpl : (backTo pos (starEach es X.env)).any (·.1) = false := by rfl) :
  PE X (.Call (.Name x p) (e :: es) [] pos) (tCall sp dvs E t) := by
 intro pins s σ H Q I h
 refine wpAny_Call_Name_kw (ld_glob I hg hm ?_ hdb)
 refine PySem.W.callWith_K (h₀ := X.base) I.ok.mod.kin hk (thn (ha pos pins s σ H _ I h) fun us s1 ⟨vs, H1, I1, r, q⟩ => ⟨I1.kIn, ?_⟩) he hpl
 exact run_fn F hr hb hd hx I1 r q
structure Mk (K : PySem.W.Frag) (C f : Addr) : Prop where
 makes : PySem.W.makesIn K C = true
 init : PySem.W.findIn K (.ref C) "__init__" = some (some (.ref f))
 fn : PySem.W.isFn K (.ref f) = true
 kp : PySem.W.keepIn K (.ref C) = true

end

section
variable {X : Cx} {CX : CXT} {k : Nat} {f C : Addr} {fd : FuncData} {ps ks : List Str} {sp : Sp} {E : XK} {x m : Str} {p pos apos kpos : Pos} {e o : Expr} {es : List Expr} {kws : List Keyword} {te ta : TE} {t tk : TA} {nm : Option Str}
structure KBinds (K : PySem.W.Frag) (fd : FuncData) (ps ks : List Str) (g : List Value → List Value → List Value) (gV : List V → List V → List V) : Prop where
 to : ∀ (s : Shared) (us ws : List Value), K.In s.heap → (g us ws).length = ps.length → BindsTo s fd ⟨us, ks.zip ws⟩ (ps.zip (g us ws))
 rel : ∀ {vs : List V} {us : List Value} {zs : List V} {ws : List Value}, Vals vs us → Vals zs ws → Vals (gV vs zs) (g us ws)
variable {g : List Value → List Value → List Value} {gV : List V → List V → List V}
end

structure FnScope (N P : List Str) (sc : Scope) : Prop where
 kind : sc.kind = .function
 co : sc.isCoroutine = false
 gen : sc.isGenerator = false
 nd : N.Nodup
 pre : N.take P.length = P
 par : ∀ x ∈ P, sc.names.lookup x = some .local ∨ sc.names.lookup x = some .cell
 nofree : ∀ y ∈ sc.names, y.2 ≠ .free

theorem bindL_out {kindOf : Str → Option NameKind} {x : Str} : ∀ {binds : List (Str × Value)} {m : Str → Option Value}, (∀ v, (x, v) ∉ binds) → bindL kindOf binds m x = m x
 | [], _, _ => rfl
 | (n, v) :: r, m, h => by
  unfold bindL
  rw [bindL_out fun w hw => h w (List.mem_cons_of_mem _ hw)]
  split
  ·have : x ≠ n := by rintro rfl; exact h v List.mem_cons_self
   simp [this]
  ·rfl
theorem bindC_out {kindOf : Str → Option NameKind} {x : Str} : ∀ {binds : List (Str × Value)} {m : Str → Option Value}, (∀ v, (x, v) ∉ binds) → bindC kindOf binds m x = m x
 | [], _, _ => rfl
 | (n, v) :: r, m, h => by
  unfold bindC
  rw [bindC_out fun w hw => h w (List.mem_cons_of_mem _ hw)]
  split
  ·rfl
  ·have : x ≠ n := by rintro rfl; exact h v List.mem_cons_self
   simp [this]
theorem bindL_get {kindOf : Str → Option NameKind} {x : Str} {v : Value} : ∀ {P : List Str} {vs : List Value} {i : Nat} {m : Str → Option Value}, P.Nodup → P[i]? = some x → vs[i]? = some v → kindOf x = some .local →
  bindL kindOf (P.zip vs) m x = some v
 | [], _, _, _, _, h, _, _ => by simp at h
 | _ :: _, [], _, _, _, _, h, _ => by simp at h
 | p :: P, w :: vs, 0, m, nd, h1, h2, hk => by
  simp at h1 h2; subst h1; subst h2
  show bindL kindOf ((p, w) :: P.zip vs) m p = _
  unfold bindL
  rw [bindL_out fun v hv => (List.nodup_cons.mp nd).1 (List.of_mem_zip hv).1, if_pos hk]
  simp
 | p :: P, w :: vs, i + 1, m, nd, h1, h2, hk => by
  show bindL kindOf ((p, w) :: P.zip vs) m x = _
  unfold bindL
  exact bindL_get (i := i) (List.nodup_cons.mp nd).2 (by simpa using h1) (by simpa using h2) hk
theorem bindC_get {kindOf : Str → Option NameKind} {x : Str} {v : Value} : ∀ {P : List Str} {vs : List Value} {i : Nat} {m : Str → Option Value}, P.Nodup → P[i]? = some x → vs[i]? = some v → kindOf x ≠ some .local →
  bindC kindOf (P.zip vs) m x = some v
 | [], _, _, _, _, h, _, _ => by simp at h
 | _ :: _, [], _, _, _, _, h, _ => by simp at h
 | p :: P, w :: vs, 0, m, nd, h1, h2, hk => by
  simp at h1 h2; subst h1; subst h2
  show bindC kindOf ((p, w) :: P.zip vs) m p = _
  unfold bindC
  rw [bindC_out fun v hv => (List.nodup_cons.mp nd).1 (List.of_mem_zip hv).1, if_neg hk]
  simp
 | p :: P, w :: vs, i + 1, m, nd, h1, h2, hk => by
  show bindC kindOf ((p, w) :: P.zip vs) m x = _
  unfold bindC
  exact bindC_get (i := i) (List.nodup_cons.mp nd).2 (by simpa using h1) (by simpa using h2) hk

noncomputable def start (N : List Str) (vs : List V) : St := vs.map some ++ List.replicate (N.length - vs.length) none

noncomputable def cxOf (CX : CXT) (P : Program) (w : World) (K : PySem.W.Frag) (mg : Str → Option Value) (base : Heap) (N : List Str) (qual : Str) (scope : Scope) (f : Addr) (cd : Value) (A : Around) (outer : List Env) (s : Shared) (H : Hp) (E : XK) : Cx where
 prog := P
 w := w
 K := K
 mg := mg
 base := base
 A := A.deeper (envOfC qual scope s.heap.objs.size f cd)
 N := N
 s₀ := s
 H₀ := H
 env := envOfC qual scope s.heap.objs.size f cd
 outer := outer
 stack := envOfC qual scope s.heap.objs.size f cd :: outer
 ex := []
 calm := true
 fn := fun _ => true
 pn := []
 xe := fun e s' => wpAny (model P w) (A.deeper (envOfC qual scope s.heap.objs.size f cd)) (leaving (envOfC qual scope s.heap.objs.size f cd) e) (fun _ s'' => CX outer H s E e s'') (fun e' s'' => CX outer H s E e' s'') s'

theorem cell_has {sc : Scope} {n : Nat} {x : Str} (h : sc.names.lookup x = some .cell) : ∃ c, (cellsFrom n sc.names []).lookup x = some c := by
 have q := PySem.W.cellsFrom_some sc.names n [] (.inl h)
 exact Option.isSome_iff_exists.mp q

theorem inv_start {CX : CXT} {P : Program} {w : World} {K : PySem.W.Frag} {mg : Str → Option Value} {base : Heap} {N ps : List Str} {qual : Str} {scope : Scope} {f : Addr} {cd : Value} {A : Around} {outer : List Env} {s s1 : Shared} {H : Hp} {E : XK} {us : List Value} {vs : List V}
  (S : FnScope N ps scope) (hd : A.handled = none) (e0 : Env0 P w K mg base A outer s H) (hl : vs.length = ps.length) (r : Vals vs us)
  (x : InCallC s s.heap.objs.size (bindL (envOfC qual scope s.heap.objs.size f cd).kindOf (ps.zip us) fun _ => none) (cellsFrom (s.heap.objs.size + 1) scope.names []) (bindC (envOfC qual scope s.heap.objs.size f cd).kindOf (ps.zip us) fun _ => none) s1) :
  Inv (cxOf CX P w K mg base N qual scope f cd A outer s H E) [] (start N vs) H s1 := by
 have hpl : ps.length ≤ N.length := by have := congrArg List.length S.pre; rw [List.length_take] at this; omega
 obtain ⟨h1, tk, rfl, hk⟩ := x.done
 have noA : ∀ b : Addr, b ∉ (cxOf CX P w K mg base N qual scope f cd A outer s H E).ex := fun b z => absurd (show b ∈ ([] : List Addr) from z) (by simp)
 refine ⟨⟨e0.mod, S.kind, rfl, rfl, Nat.le_refl _, fun y z c h1 h2 => ?_, fun y hy => ?_, fun y c _ h => ?_, fun _ => hd, Around.frames_deeper e0.frames, .inr ⟨rfl, rfl⟩, fun b z => absurd z (noA b), e0.bs, e0.bsz, fun b _ _ => noA b, fun b z => absurd z (noA b), e0.funs, e0.frf⟩,
  rfl, e0.bare, Un.kept hk, ⟨_, x.toInCall.ns, fun i y v h1 h2 h3 => ?_⟩, fun y c h => ⟨_, x.cell y c h⟩, e0.hok.fresh (Nat.le_refl _), fun y c h => ?_, fun p hp => absurd (show p ∈ ([] : List (Addr × Obj)) from hp) (by simp), e0.hok.kept hk, ?_⟩
 ·exact name_of_addr x.apart (PySem.mem_of_lookup h1) (PySem.mem_of_lookup h2)
 ·have hy : scope.names.lookup y = some .cell ∨ scope.names.lookup y = some .free := hy
  rcases hy with hy | hy
  ·exact cell_has hy
  ·exact absurd rfl (S.nofree _ (PySem.mem_of_lookup hy))
 ·exact Nat.le_of_lt (x.above y c (PySem.mem_of_lookup h))
 ·have hi : i < vs.length := by
   unfold start at h2
   by_cases hi : i < vs.length
   ·exact hi
   ·rw [List.getElem?_append_right (by simpa using hi)] at h2
    rw [List.getElem?_replicate] at h2
    split at h2 <;> cases h2
  have ha : vs[i]? = some v := by
   unfold start at h2
   rw [List.getElem?_append_left (by simpa using hi), List.getElem?_map] at h2
   cases e : vs[i]? with
   | none => rw [e] at h2; cases h2
   | some a => rw [e] at h2; cases h2; rfl
  obtain ⟨u, hu, rv⟩ := r.get ha
  have hp : ps[i]? = some y := by
   rw [← S.pre, List.getElem?_take_of_lt (by omega)]; exact h1
  have ndP : ps.Nodup := by rw [← S.pre]; exact S.nd.sublist (List.take_sublist _ _)
  refine ⟨u, rv, ?_⟩
  rcases S.par y (List.mem_of_getElem? hp) with k | k
  ·exact .inl ⟨k, bindL_get ndP hp hu k⟩
  ·obtain ⟨c, e⟩ := cell_has (n := s.heap.objs.size + 1) k
   refine .inr ⟨.inl k, c, e, ?_⟩
   have q := x.cell y c e
   rw [bindC_get ndP hp hu (by show scope.names.lookup y ≠ _; rw [k]; decide)] at q
   exact q
 ·exact e0.hok.fresh (Nat.le_of_lt (x.above y c (PySem.mem_of_lookup h)))
 ·unfold start
  show _ = N.length
  rw [List.length_append, List.length_map, List.length_replicate]
  omega

theorem fn_of {CX : CXT} {P : Program} {w : World} {K : PySem.W.Frag} {mg : Str → Option Value} {base : Heap} {k : Nat} {f : Addr} {name qual : Str} {params : Arguments} {body : List Stmt} {scope : Scope} {dV kV doc pm cdv ct oc : Value} {an od : Option Addr}
  {osl : Array (Option Value)} {N ps : List Str} {sp : Sp} (lk : K.lookup f = some ⟨oc, od, .func (PySem.W.fnOf name qual params body scope dV kV doc pm an cdv ct), osl⟩) (hcd : PySem.W.codeIn K cdv qual = true) (S : FnScope N ps scope)
  (len : ∀ vs H Q E, sp vs H Q E → vs.length = ps.length)
  (hbody : ∀ (A : Around) (outer : List Env) (s : Shared) (H : Hp) (vs : List V) (Q : VK) (E : XK), Room k (A.deeper (envOfC qual scope s.heap.objs.size f cdv)) → sp vs H Q E →
   ∃ t, PSs (cxOf CX P w K mg base N qual scope f cdv A outer s H E) body t ∧ t { nx := fun _ H' => Q .non H', rt := Q } (start N vs) H) :
  FnOk P w K mg base CX (k + 1) f (PySem.W.fnOf name qual params body scope dV kV doc pm an cdv ct) ps sp := by
 refine ⟨len, fun A outer s H args us vs Q E hr e0 hb r hsp => ?_⟩
 have hl := len _ _ _ _ hsp
 have KX : K.In s.heap := e0.mod.kin.keeps fun b o e => (e0.bs b o e).1
 have lim : s.heap.NoLimit := e0.mod.nolimit.keeps fun b o e => (e0.bs b o e).1
 have hkind : ∀ y ∈ ps.zip us, scope.names.lookup y.1 = some .local ∨ (scope.names.lookup y.1 = some .cell ∧ ((cellsFrom (s.heap.objs.size + 1) scope.names []).lookup y.1).isSome = true) := fun ⟨n, v⟩ hy => by
  rcases S.par n (List.of_mem_zip hy).1 with q | q
  ·exact .inl q
  ·exact .inr ⟨q, PySem.W.cellsFrom_some _ _ _ (.inl q)⟩
 refine codeAny_call_function hr.depth (KX _ _ lk) rfl S.co S.gen rfl (PySem.W.codeRec_of KX hcd) (hb _ _ _ _ ?_)
 refine wpAny_newFunctionEnv_cells S.kind hkind fun env he s1 x => ?_
 subst he
 refine ⟨lim.keeps x.toInCall.keep, codeAny_func ?_⟩
 obtain ⟨t, ht, hq⟩ := hbody A outer s H vs Q E (hr.deeper _) hsp
 have I : Inv (cxOf CX P w K mg base N qual scope f cdv A outer s H E) [] (start N vs) H s1 := inv_start S hr.hd e0 hl r x
 refine wpAny_mono (ht [] s1 (start N vs) H _ I hq) (fun fl s' hs => ?_) fun e s' hs => hs
 have fin : ∀ {σ' : St} {H' : Hp} {v : V} {u : Value}, Inv (cxOf CX P w K mg base N qual scope f cdv A outer s H E) [] σ' H' s' → RelV v u → Q v H' → CE outer P w H s Q u s' :=
  fun {σ' H' v u} J rv q => ⟨v, H', J.os, J.bare, J.base, J.hok, rv, q⟩
 cases fl with
 | ret u =>
  obtain ⟨v, σ', H', J, rv, q⟩ := hs
  exact fin J rv q
 | next =>
  obtain ⟨σ', H', J, q⟩ := hs
  exact fin (v := V.non) (u := Value.none) J rfl q
 | brk =>
  obtain ⟨_, _, _, q⟩ := hs
  exact False.elim q
 | cont =>
  obtain ⟨_, _, _, q⟩ := hs
  exact False.elim q
end L2

namespace L2
open PySem PySem.Spec PyProof.Rows
section
variable {X : Cx} {x : Str} {p pos : Pos} {e : Expr} {es : List Expr} {t : TA} {id T : String} {r : List V → Hp → VK → Prop}

noncomputable def tCB (r : List V → Hp → VK → Prop) (t : TA) : TE := fun σ H Q => t σ H fun vs H1 => r vs H1 Q
theorem pe_callB (hc : CallR X (.builtin id) r) (hg : Gl X x) (hm : X.mg x = none) (hv : bootBuiltins x = some (.builtin id)) (ha : PA X (e :: es) t) (hn : x ≠ "__name__" := by decide) (hdb : (x == ("__debug__" : Str)) = false := by decide)
  (he : starEach (e :: es) X.env = (false, eval e X.env) :: starEach es X.env := by rfl) (hpl : (backTo pos (starEach es X.env)).any (·.1) = false := by rfl) : PE X (.Call (.Name x p) (e :: es) [] pos) (tCB r t) := by
 intro pins s σ H Q I h
 refine wpAny_Call_Name_kw (ld_blt I hg hm hv ?_ hn hdb)
 exact PyProof.Rows.callWith_builtin1 (thn (ha pos pins s σ H _ I h) fun us s1 ⟨vs, H1, I1, r1, q1⟩ => hc pins s1 σ H1 vs us Q I1 r1 q1) he hpl
end
end L2

namespace HT
open PySem PyProof.Rows

section
open PySem.SeqAt
open PySem.AutoSeq1 (wpAny_loadPart')
open PySem.MeetsSeq PySem.MeetsSeq2 PySem.MeetsSeq3

end

section
variable {prog : Program} {w : World} {A : Around} {E : Value → Shared → Prop} {s : Shared}

noncomputable def sIx (n d : Nat) : Option Int → Nat
 | none => d
 | some v => if v < 0 then (v + (n : Int)).toNat else min v.toNat n
theorem sIx_le (n d : Nat) (hd : d ≤ n) (o : Option Int) : sIx n d o ≤ n := by
 cases o with
 | none => exact hd
 | some v =>
  show (if v < 0 then (v + (n : Int)).toNat else min v.toNat n) ≤ n
  by_cases hv : v < 0
  ·rw [if_pos hv]; omega
  ·rw [if_neg hv]; exact Nat.min_le_right _ _
theorem clip_eq (v : Int) (n d : Nat) : (if v < 0 then max (v + (n : Int)) 0 else min v (n : Int)) = ((sIx n d (some v) : Nat) : Int) := by
 show (if v < 0 then max (v + (n : Int)) 0 else min v (n : Int)) = (((if v < 0 then (v + (n : Int)).toNat else min v.toNat n) : Nat) : Int)
 by_cases hv : v < 0
 ·simp only [if_pos hv]; omega
 ·simp only [if_neg hv]; omega
end
end HT

namespace L2
open PySem PySem.Spec PyProof.Rows

noncomputable abbrev TO := St → Hp → (Option Int → Hp → Prop) → Prop
noncomputable def PO (X : Cx) (e : Option Expr) (t : TO) : Prop :=
 ∀ (pins : List (Addr × Obj)) (s : Shared) (σ : St) (H : Hp) (Q : Option Int → Hp → Prop), Inv X pins σ H s → t σ H Q →
  wpAny (model X.prog X.w) X.A (evalPart e X.env) (fun u s' => ∃ o H', Inv X pins σ H' s' ∧ IsPart u o ∧ Q o H') X.xe s
noncomputable def tNoPart : TO := fun _ H Q => Q none H
noncomputable def tPart (t : TE) : TO := fun σ H Q => t σ H fun x H1 => ∃ i, x = .int i ∧ Q (some i) H1

section
variable {X : Cx} {e : Expr} {te : TE} {lo hi : Option Expr} {tl th : TO} {pos p2 : Pos}

theorem po_none : PO X none tNoPart := by
 intro pins s σ H Q I h
 rw [evalPart_none]
 exact wpAny_pure ⟨none, H, I, .none, h⟩
theorem po_some (h : PE X e te) : PO X (some e) (tPart te) := by
 intro pins s σ H Q I hw
 rw [evalPart_some]
 refine thn (h pins s σ H _ I hw) fun u s1 ⟨x, H1, I1, r1, q1⟩ => ?_
 obtain ⟨i, rfl, q⟩ := q1
 obtain ⟨t, rfl⟩ := r1
 exact ⟨some i, H1, I1, .int i t, q⟩

noncomputable def SlR (X : Cx) (r : V → Option Int → Option Int → Hp → VK → Prop) : Prop :=
 ∀ (pins : List (Addr × Obj)) (s : Shared) (σ : St) (H : Hp) (x : V) (v vl vu : Value) (lo hi : Option Int) (sl : Addr) (Q : VK), Inv X pins σ H s → RelV x v → s.heap.IsSliceOf sl vl vu .none → IsPart vl lo → IsPart vu hi → r x lo hi H Q →
  ∃ T id, typeLookup (.type T) "__getitem__" = pure (some (.builtin id)) ∧ s.TypeIs v T ∧ wpAny (model X.prog X.w) X.A (getItem v (.ref sl)) (EP X pins σ Q) X.xe s
theorem SlR.or {r r' : V → Option Int → Option Int → Hp → VK → Prop} (h : SlR X r) (h' : SlR X r') : SlR X (fun x lo hi H Q => r x lo hi H Q ∨ r' x lo hi H Q) := by
 intro pins s σ H x v vl vu lo hi sl Q I rx hs pl pu q
 rcases q with q | q
 ·exact h pins s σ H x v vl vu lo hi sl Q I rx hs pl pu q
 ·exact h' pins s σ H x v vl vu lo hi sl Q I rx hs pl pu q
noncomputable def tSl (r : V → Option Int → Option Int → Hp → VK → Prop) (te : TE) (tl th : TO) : TE := fun σ H Q => te σ H fun x H1 => tl σ H1 fun l H2 => th σ H2 fun u H3 => r x l u H3 Q
theorem pe_slice {r : V → Option Int → Option Int → Hp → VK → Prop} (hr : SlR X r) (he : PE X e te) (hl : PO X lo tl) (hu : PO X hi th) : PE X (.Subscript e (.Slice lo hi none p2) pos) (tSl r te tl th) := by
 intro pins s σ H Q I h
 refine Subscript_ (thn (he pins s σ H _ I h) fun v s1 ⟨x, H1, I1, r1, q1⟩ => ?_)
 refine wpAny_Slice (thn (hl pins s1 σ H1 _ I1 q1) fun vl s2 ⟨l, H2, I2, pl, q2⟩ => thn (hu pins s2 σ H2 _ I2 q2) fun vu s3 ⟨u, H3, I3, pu, q3⟩ => ?_)
 rw [evalPart_none]
 refine wpAny_pure ?_
 have I4 : Inv X pins σ H3 { s3 with heap := s3.heap.push { cls := .type "slice", data := .fields #[vl, vu, .none] } } := I3.kept (t' := s3.toks) fun b ob q => Heap.get?_push_of_some _ q
 obtain ⟨T, id, hT, ht, hg⟩ := hr pins { s3 with heap := s3.heap.push { cls := .type "slice", data := .fields #[vl, vu, .none] } } σ H3 x v vl vu l u s3.heap.objs.size Q I4 r1 (Heap.IsSliceOf.new ..) pl pu q3
 show wpAny (model X.prog X.w) X.A (subscriptTail e (.Slice lo hi none p2) v (.ref s3.heap.objs.size)) (EP X pins σ Q) X.xe { s3 with heap := s3.heap.push { cls := .type "slice", data := .fields #[vl, vu, .none] } }
 exact tail_any (ops := [.ref s3.heap.objs.size, v]) ht hT hg (by with_unfolding_all rfl)

noncomputable def cutV (xs : List V) (lo hi : Option Int) : List V := (xs.drop (HT.sIx xs.length 0 lo)).take (HT.sIx xs.length xs.length hi - HT.sIx xs.length 0 lo)
theorem cutV_length (xs : List V) (lo hi : Option Int) : (cutV xs lo hi).length ≤ xs.length := by
 unfold cutV
 rw [List.length_take, List.length_drop]
 omega
end
end L2

namespace L2
open PySem PySem.Spec PyProof.Rows

noncomputable def ixN (n : Nat) (i : Int) : Option Nat := if 0 ≤ i then (if i < n then some i.toNat else none) else if -(n : Int) ≤ i then some (i + n).toNat else none
noncomputable def atI {α : Type} (xs : List α) (i : Int) : Option α := (ixN xs.length i).bind fun j => xs[j]?
theorem ixN_seq {n : Nat} {i : Int} {j : Nat} (h : ixN n i = some j) : seqIndex? i n = some j ∧ j < n ∧ -(n : Int) ≤ i ∧ i < n := by
 unfold ixN at h
 by_cases h0 : 0 ≤ i
 ·rw [if_pos h0] at h
  by_cases h1 : i < n
  ·rw [if_pos h1] at h
   have e : i.toNat = j := Option.some.inj h
   exact ⟨by rw [seqIndex_of h0 h1, e], by omega, by omega, h1⟩
  ·rw [if_neg h1] at h; cases h
 ·rw [if_neg h0] at h
  by_cases h1 : -(n : Int) ≤ i
  ·rw [if_pos h1] at h
   have e : (i + n).toNat = j := Option.some.inj h
   exact ⟨by rw [seqIndex_neg (by omega) h1, e], by omega, h1, by omega⟩
  ·rw [if_neg h1] at h; cases h
theorem atI_get {α : Type} {xs : List α} {i : Int} {v : α} (h : atI xs i = some v) : ∃ j, seqIndex? i xs.length = some j ∧ xs[j]? = some v ∧ j < xs.length ∧ -(xs.length : Int) ≤ i ∧ i < xs.length := by
 unfold atI at h
 cases e : ixN xs.length i with
 | none => rw [e] at h; cases h
 | some j =>
  rw [e] at h
  obtain ⟨h1, h2, h3, h4⟩ := ixN_seq e
  exact ⟨j, h1, h, h2, h3, h4⟩
theorem atI_nat {α : Type} {xs : List α} {j : Nat} {v : α} (h : xs[j]? = some v) : atI xs (j : Int) = some v := by
 have hj : j < xs.length := (List.getElem?_eq_some_iff.mp h).1
 have e : ixN xs.length (j : Int) = some j := by
  unfold ixN
  rw [if_pos (by omega), if_pos (by omega)]; simp
 unfold atI; rw [e]; exact h
noncomputable def PlainIx (b : Expr) : Prop := ∀ o i, subscripted b false o i = operate [o, i] (getItem o i)
noncomputable def IxR (X : Cx) (r : R2) : Prop :=
 ∀ (value slice : Expr) (pins : List (Addr × Obj)) (s : Shared) (σ : St) (H : Hp) (x y : V) (v u : Value) (Q : VK), Inv X pins σ H s → RelV x v → RelV y u → r x y H Q →
  subscripted slice false v u = operate [v, u] (getItem v u) → wpAny (model X.prog X.w) X.A (subscriptTail value slice v u) (EP X pins σ Q) X.xe s
noncomputable def MtR (X : Cx) (id : String) (r : V → List V → Hp → VK → Prop) : Prop :=
 ∀ (pins : List (Addr × Obj)) (s : Shared) (σ : St) (H : Hp) (x : V) (xs : List V) (v : Value) (us : List Value) (Q : VK), Inv X pins σ H s → RelV x v → Vals xs us → r x xs H Q →
  wpAny (model X.prog X.w) X.A (call (.builtin id) (v :: us)) (EP X pins σ Q) X.xe s
section
variable {X : Cx} {a b : Expr} {ta tb : TE} {pos : Pos}
theorem IxR.or {r r' : R2} (h : IxR X r) (h' : IxR X r') : IxR X (fun x y H Q => r x y H Q ∨ r' x y H Q) := by
 intro value slice pins s σ H x y v u Q I rx ry q hs
 rcases q with q | q
 ·exact h value slice pins s σ H x y v u Q I rx ry q hs
 ·exact h' value slice pins s σ H x y v u Q I rx ry q hs
theorem pe_ix {r : R2} (hr : IxR X r) (ha : PE X a ta) (hb : PE X b tb) (hs : PlainIx b) : PE X (.Subscript a b pos) (tOp r ta tb) := by
 intro pins s σ H Q I h
 exact Subscript_ (binT ha hb I h fun v u s2 x y H2 I2 rx ry q => hr a b pins s2 σ H2 x y v u Q I2 rx ry q (hs _ _))

noncomputable def rIxL (K : PySem.W.Frag) : R2 := fun x y H Q => ∃ p xs i v, x = .ref p ∧ y = .int i ∧ SqL K H p xs ∧ atI xs i = some v ∧ Q v H
noncomputable def rIxT (K : PySem.W.Frag) : R2 := fun x y H Q => ∃ p xs i v, x = .ref p ∧ y = .int i ∧ SqT K H p xs ∧ atI xs i = some v ∧ Q v H
noncomputable def rIxS : R2 := fun x y H Q => ∃ z i c, x = .str z ∧ y = .int i ∧ z.length ≤ sizeLine ∧ atI z.cps.toList i = some c ∧ Q (.str ⟨#[c]⟩) H
theorem ix_list : IxR X (rIxL X.K) := by
 intro value slice pins s σ H x y v u Q I rx ry h hs
 obtain ⟨p, xs, i, z, rfl, rfl, hq, he, q⟩ := h
 cases rx
 obtain ⟨t, rfl⟩ := ry
 obtain ⟨its, r, pl, hz⟩ := I.list hq
 obtain ⟨j, h1, h2, h3, h4, h5⟩ := atI_get he
 obtain ⟨w, ew, rw'⟩ := r.get h2
 have hl := r.length
 have hn := line63
 have fin : EP X pins σ Q w s := ⟨z, H, I, rw', q⟩
 by_cases h0 : 0 ≤ i
 ·have hj : i.toNat = j := by
   rw [seqIndex_of h0 h5] at h1
   exact Option.some.inj h1
  exact item_listR pl.isList h0 (by omega) (by rw [hj]; simpa using ew) fin hs
 ·have hj : (i + (its.toArray.size : Int)).toNat = j := by
   rw [seqIndex_neg (by omega) h4] at h1
   rw [List.size_toArray, ← hl]
   exact Option.some.inj h1
  exact subscriptTail_builtinR (x := w) pl.isList.typeIs slot_list_getitem.lookup
   (wpAny_getItem_list_neg (Q := fun r s' => r = w ∧ EP X pins σ Q r s') pl.isList (by omega) (by rw [List.size_toArray] <;> omega) (by omega) (by rw [hj]; simpa using ew) ⟨rfl, fin⟩) hs
theorem ix_tup : IxR X (rIxT X.K) := by
 intro value slice pins s σ H x y v u Q I rx ry h hs
 obtain ⟨p, xs, i, z, rfl, rfl, hq, he, q⟩ := h
 cases rx
 obtain ⟨t, rfl⟩ := ry
 obtain ⟨its, r, pl, hz⟩ := I.tuple hq
 obtain ⟨j, h1, h2, h3, h4, h5⟩ := atI_get he
 obtain ⟨w, ew, rw'⟩ := r.get h2
 have hl := r.length
 have hn := line63
 have fin : EP X pins σ Q w s := ⟨z, H, I, rw', q⟩
 exact subscriptTail_builtinR (x := w) pl.typeIs slot_tuple_getitem.lookup
  (getItem_tuple (j := j) (Q := fun r s' => r = w ∧ EP X pins σ Q r s') pl (by omega) (by omega) (by rw [List.size_toArray, ← hl]; exact h1) (by simpa using ew) ⟨rfl, fin⟩) hs
theorem ix_str : IxR X rIxS := by
 intro value slice pins s σ H x y v u Q I rx ry h hs
 obtain ⟨z, i, c, rfl, rfl, hz, he, q⟩ := h
 obtain ⟨t, rfl⟩ := rx
 obtain ⟨t', rfl⟩ := ry
 obtain ⟨j, h1, h2, h3, h4, h5⟩ := atI_get he
 have hl : z.cps.toList.length = z.length := by simp [Str.length]
 rw [hl] at h1 h4 h5
 have hn := line63
 exact tail_any (typeIs_str s z t) slot_str_getitem.lookup (getItem_str (c := c) (by
  have e1 : decide (i < -(2 ^ 63 : Int)) = false := decide_eq_false (by omega)
  have e2 : decide (i ≥ 2 ^ 63) = false := decide_eq_false (by omega)
  rw [e1, e2, Bool.or_false]) (by rw [h1]; simpa using h2) ⟨.str ⟨#[c]⟩, H, I.tok _, ⟨_, rfl⟩, q⟩) hs
noncomputable def rIx (K : PySem.W.Frag) : R2 := fun x y H Q => rIxL K x y H Q ∨ rIxT K x y H Q ∨ rIxS x y H Q
theorem ix_seq : IxR X (rIx X.K) := ix_list.or (ix_tup.or ix_str)

theorem Inv.lst {pins : List (Addr × Obj)} {σ : St} {H : Hp} {s : Shared} {p : Addr} {xs : List V} (I : Inv X pins σ H s) (h : H p = some (.lst xs)) :
  ∃ (its : List Value) (n : Nat), Vals xs its ∧ s.heap.get? p = some { cls := .type "list", data := .seq its.toArray n } ∧ xs.length ≤ sizeLine := by
 obtain ⟨z, its, n, r, e⟩ := I.hok p _ h
 exact ⟨its, n, r, e, z⟩
theorem slice_bounds (lo hi : Option Int) (n : Nat) : (sliceBounds lo hi none n).1 = ((HT.sIx n 0 lo : Nat) : Int) ∧ (sliceBounds lo hi none n).2.1 = ((HT.sIx n n hi : Nat) : Int) ∧ (sliceBounds lo hi none n).2.2 = 1 := by
 refine ⟨?_, ?_, rfl⟩
 ·cases lo with
  | none => simp [sliceBounds, HT.sIx]
  | some i =>
   simp only [sliceBounds, HT.sIx, Option.getD_none, show (1 : Int) > 0 by decide, if_true]
   by_cases h : i < 0
   ·simp only [h, if_true] <;> omega
   ·simp only [h, if_false] <;> omega
 ·cases hi with
  | none => simp [sliceBounds, HT.sIx]
  | some i =>
   simp only [sliceBounds, HT.sIx, Option.getD_none, show (1 : Int) > 0 by decide, if_true]
   by_cases h : i < 0
   ·simp only [h, if_true] <;> omega
   ·simp only [h, if_false] <;> omega
theorem slicePick_cut (its : List Value) (lo hi : Option Int) : slicePick its.toArray lo hi none = ((its.drop (HT.sIx its.length 0 lo)).take (HT.sIx its.length its.length hi - HT.sIx its.length 0 lo)).toArray := by
 obtain ⟨h1, h2, h3⟩ := slice_bounds lo hi its.toArray.size
 unfold slicePick
 rw [h1, h2, h3]
 simp only [sliceRange_one, pick_run, List.size_toArray] <;> rfl
noncomputable def rSlL (K : PySem.W.Frag) : V → Option Int → Option Int → Hp → VK → Prop := fun x lo hi H Q => ∃ a xs, x = .ref a ∧ SqL K H a xs ∧ ∀ p, H p = none → Q (.ref p) (upd H p (.lst (cutV xs lo hi)))
theorem sl_list : SlR X (rSlL X.K) := by
 intro pins s σ H x v vl vu lo hi sl Q I rx hs pl pu h
 obtain ⟨a, xs, rfl, hx, q⟩ := h
 cases rx
 obtain ⟨its, r, ht, hz⟩ := I.list hx
 have hlen := r.length
 refine ⟨"list", _, slot_list_getitem.lookup, ht.isList.typeIs, ?_⟩
 refine wpAny_getItem_list_slice ht.isList hs pl pu .none (by simp) ?_ (by rw [List.size_toArray] <;> omega)
 rw [slicePick_cut, ← hlen]
 refine ⟨.ref s.heap.objs.size, _, I.laid (t' := s.toks) (o := .lst (cutV xs lo hi)) (fun b ob q => Heap.get?_push_of_some _ q) (Nat.le_refl _) ?_, rfl, q _ (I.hok.fresh (Nat.le_refl _))⟩
 exact ⟨Nat.le_trans (cutV_length xs lo hi) hz, _, 0, (r.drop (HT.sIx xs.length 0 lo)).take (HT.sIx xs.length xs.length hi - HT.sIx xs.length 0 lo), Heap.get?_push_size _ rfl⟩

noncomputable def flatV : V → Bool
 | .non => true
 | .bl _ => true
 | .int _ => true
 | .str _ => true
 | _ => false
noncomputable def eqV : V → V → Bool
 | .non, .non => true
 | .bl a, .bl b => a == b
 | .bl a, .int b => (if a then 1 else 0) == b
 | .int a, .bl b => a == (if b then 1 else 0)
 | .int a, .int b => a == b
 | .str a, .str b => a == b
 | _, _ => false
theorem eqAt_V {A : Around} {s : Shared} {y x : V} {u v : Value} (ry : RelV y u) (rx : RelV x v) (fy : flatV y = true) (fx : flatV x = true) : SeqAt.EqAt A s u v (eqV y x) := by
 cases y with
 | non =>
  cases ry
  cases x with
  | non => cases rx; exact SeqAt.EqAt.same _
  | bl b => cases rx; exact SeqAt.EqAt.none_bool b
  | int b => obtain ⟨t, rfl⟩ := rx; exact SeqAt.EqAt.none_int b t
  | str b => obtain ⟨t, rfl⟩ := rx; exact SeqAt.EqAt.none_str b t
  | _ => exact absurd (show false = true from fx) Bool.false_ne_true
 | bl a =>
  cases ry
  cases x with
  | non => cases rx; exact SeqAt.EqAt.bool_none a
  | bl b => cases rx; exact SeqAt.EqAt.bool_bool a b
  | int b => obtain ⟨t, rfl⟩ := rx; exact SeqAt.EqAt.bool_int a b t
  | str b => obtain ⟨t, rfl⟩ := rx; exact SeqAt.EqAt.bool_str a b t
  | _ => exact absurd (show false = true from fx) Bool.false_ne_true
 | int a =>
  obtain ⟨t', rfl⟩ := ry
  cases x with
  | non => cases rx; exact SeqAt.EqAt.int_none a t'
  | bl b => cases rx; exact SeqAt.EqAt.int_bool a t' b
  | int b => obtain ⟨t, rfl⟩ := rx; exact SeqAt.EqAt.int_int a t' b t
  | str b => obtain ⟨t, rfl⟩ := rx; exact SeqAt.EqAt.int_str a t' b t
  | _ => exact absurd (show false = true from fx) Bool.false_ne_true
 | str a =>
  obtain ⟨t', rfl⟩ := ry
  cases x with
  | non => cases rx; exact SeqAt.EqAt.str_none a t'
  | bl b => cases rx; exact SeqAt.EqAt.str_bool a t' b
  | int b => obtain ⟨t, rfl⟩ := rx; exact SeqAt.EqAt.str_int a t' b t
  | str b => obtain ⟨t, rfl⟩ := rx; exact SeqAt.EqAt.str_str a t' b t
  | _ => exact absurd (show false = true from fx) Bool.false_ne_true
 | _ => exact absurd (show false = true from fy) Bool.false_ne_true
noncomputable def eqU (x : V) (u : Value) : Bool := match u with
 | .none => eqV .non x
 | .bool b => eqV (.bl b) x
 | .int i _ => eqV (.int i) x
 | .str z _ => eqV (.str z) x
 | _ => false
theorem eqU_of {x y : V} {u : Value} (r : RelV y u) (f : flatV y = true) : eqU x u = eqV y x := by
 cases y with
 | non => cases r; rfl
 | bl b => cases r; rfl
 | int i => obtain ⟨t, rfl⟩ := r; rfl
 | str z => obtain ⟨t, rfl⟩ := r; rfl
 | _ => exact absurd (show false = true from f) Bool.false_ne_true
theorem mem_eqAt {A : Around} {s : Shared} {x : V} {v : Value} (rx : RelV x v) (fx : flatV x = true) : ∀ {xs : List V} {us : List Value}, Vals xs us → xs.all flatV = true → ∀ u ∈ us, SeqAt.EqAt A s u v (eqU x u)
 | _, _, .nil, _ => fun u hu => by cases hu
 | y :: xs, u :: us, .cons r t, f => fun u' hu => by
  rw [List.all_cons, Bool.and_eq_true] at f
  rcases List.mem_cons.mp hu with rfl | hu
  ·rw [eqU_of r f.1]; exact eqAt_V r rx f.1 fx
  ·exact mem_eqAt rx fx t f.2 u' hu
noncomputable def tyV (K : PySem.W.Frag) (T : String) (x : V) (H : Hp) : Prop := match x with
 | .str _ => T = "str"
 | .int _ => T = "int"
 | .ref p => (T = "list" ∧ ∃ xs, SqL K H p xs) ∨ (T = "tuple" ∧ ∃ o, K.lookup p = some o ∧ o.cls = .type "tuple" ∧ o.dict = none) ∨
   (T = "dict" ∧ ((∃ kvs, H p = some (.dK kvs)) ∨ ∃ kvs, H p = some (.dT kvs))) ∨ (T = "set" ∧ ∃ S n, H p = some (.set S n))
 | _ => False
theorem tyV_is {pins : List (Addr × Obj)} {σ : St} {H : Hp} {s : Shared} {T : String} {x : V} {v : Value} (I : Inv X pins σ H s) (r : RelV x v) (ty : tyV X.K T x H) :
  s.TypeIs v T ∧ ∀ a, v = .ref a → ∃ ob, s.heap.get? a = some ob ∧ ob.dict = none := by
 cases x with
 | str z =>
  obtain ⟨t, rfl⟩ := r
  cases (show T = "str" from ty)
  exact ⟨typeIs_str s z t, fun _ e => nomatch e⟩
 | int i =>
  obtain ⟨t, rfl⟩ := r
  cases (show T = "int" from ty)
  exact ⟨typeIs_int s i t, fun _ e => nomatch e⟩
 | ref p =>
  cases r
  rcases ty with ⟨rfl, xs, hq⟩ | ⟨rfl, o, hk, hc, hd⟩ | ⟨rfl, hk⟩ | ⟨rfl, S, n, hk⟩
  ·obtain ⟨its, _, pl, _⟩ := I.list hq
   refine ⟨pl.isList.typeIs, fun a e => ?_⟩
   cases e
   obtain ⟨o, n, e, c, hd, _⟩ := pl
   exact ⟨o, e, hd⟩
  ·refine ⟨⟨o, I.kIn p o hk, hc⟩, fun a e => ?_⟩
   cases e
   exact ⟨o, I.kIn _ o hk, hd⟩
  ·have z : ∃ o, s.heap.get? p = some o ∧ o.ExactDict := by
    rcases hk with ⟨kvs, hk⟩ | ⟨kvs, hk⟩
    ·obtain ⟨_, _, _, _, o, _, _, e, ex, _⟩ := I.hok p _ hk
     exact ⟨o, e, ex⟩
    ·obtain ⟨_, _, _, _, o, _, _, e, ex, _⟩ := I.hok p _ hk
     exact ⟨o, e, ex⟩
   obtain ⟨o, e, ex⟩ := z
   refine ⟨⟨o, e, ex.1⟩, fun a e2 => ?_⟩
   cases e2
   exact ⟨o, e, ex.2.1⟩
  ·obtain ⟨o, _, _, _, e, ex, _⟩ := I.hok p _ hk
   refine ⟨⟨o, e, ex.1⟩, fun a e2 => ?_⟩
   cases e2
   exact ⟨o, e, ex.2.1⟩
 | _ => exact False.elim ty
noncomputable def tBM (K : PySem.W.Frag) (T : String) (r : V → List V → Hp → VK → Prop) (to : TE) (t : TA) : TE := fun σ H Q => to σ H fun x H1 => tyV K T x H1 ∧ t σ H1 fun xs H2 => r x xs H2 Q
variable {o e : Expr} {es : List Expr} {to : TE} {t : TA} {name : Str} {apos cpos : Pos} {T id : String} {r : V → List V → Hp → VK → Prop}
theorem pe_bm (pa : PlainAttrs T) (slot : Slot T name id) (hty : typeOf (.builtin id) = pure (.type "method_descriptor")) (hm : MtR X id r) (ho : PE X o to) (ha : PA X (e :: es) t)
  (hbase : attributeBase o name X.env (eval o X.env) = eval o X.env := by rfl)
  (hfew : ((backTo cpos (starEach (e :: es) X.env)).all (fun x => !x.1) && (backToKw cpos (keywordEach [] X.env)).all (fun x => x.1.isSome)
   && decide ((e :: es).length + ([] : List Keyword).length + (if ([] : List Keyword).isEmpty then 0 else 1) < 30)) = true := by rfl)
  (hline : (apos.endLine == cpos.line) = true := by rfl) (hs : starEach (e :: es) X.env = (false, eval e X.env) :: starEach es X.env := by rfl) (hplain : (backTo cpos (starEach es X.env)).any (·.1) = false := by rfl) :
  PE X (.Call (.Attribute o name apos) (e :: es) [] cpos) (tBM X.K T r to t) := by
 intro pins s σ H Q I h
 refine wpAny_Call_method_late hbase hfew hline rfl (thn (ho pins s σ H _ I h) fun v s1 ⟨x, H1, I1, r1, ty, q1⟩ => ?_)
 obtain ⟨h1, h2⟩ := tyV_is I1 r1 ty
 refine ⟨T, id, pa, slot, hty, h1, h2, ?_⟩
 have hA := ha cpos pins s1 σ H1 _ I1 q1
 rw [hs] at hA ⊢
 refine Calls.callWith_builtin (by show (false || (backTo cpos (starEach es X.env)).any (·.1)) = false; rw [hplain] <;> rfl) (Calls.evalArgs_plain ?_)
 exact thn hA fun us s2 ⟨vs, H2, I2, r2, q2⟩ => hm pins s2 σ H2 x vs v us Q I2 r1 r2 q2
end
end L2

namespace L2
open PySem PySem.Spec PyProof.Rows

noncomputable def MtM (X : Cx) (id : String) (r : V → List V → Hp → VK → Prop) : Prop :=
 ∀ (pins : List (Addr × Obj)) (s : Shared) (σ : St) (H : Hp) (x : V) (xs : List V) (v : Value) (us : List Value) (Q : VK), Inv X pins σ H s → RelV x v → Vals xs us → r x xs H Q →
  wpAny (model X.prog X.w) X.A (call (.builtin id) (v :: us)) (EP X pins σ Q) X.xe s

theorem Vals.one : ∀ {x : V} {us : List Value}, Vals [x] us → ∃ u, us = [u] ∧ RelV x u
 | _, _, .cons r .nil => ⟨_, rfl, r⟩
theorem Vals.two : ∀ {x y : V} {us : List Value}, Vals [x, y] us → ∃ u v, us = [u, v] ∧ RelV x u ∧ RelV y v
 | _, _, _, .cons r (.cons q .nil) => ⟨_, _, rfl, r, q⟩
theorem Vals.rep {xs : List V} {us : List Value} (h : Vals xs us) : ∀ k : Nat, Vals (List.replicate k xs).flatten (List.replicate k us).flatten
 | 0 => .nil
 | k + 1 => by
  rw [List.replicate_succ, List.replicate_succ, List.flatten_cons, List.flatten_cons]
  exact Vals.append h (Vals.rep h k)
theorem foldl_rep (its : List Value) : ∀ (k : Nat) (acc : List Value),
  List.foldl (fun x1 x2 => x1 ++ x2) acc.toArray (List.replicate k its.toArray) = (acc ++ (List.replicate k its).flatten).toArray
 | 0, acc => by simp
 | k + 1, acc => by
  have e : acc.toArray ++ its.toArray = (acc ++ its).toArray := by simp
  have e2 : (acc ++ its) ++ (List.replicate k its).flatten = acc ++ (List.replicate (k + 1) its).flatten := by
   rw [List.replicate_succ, List.flatten_cons, List.append_assoc]
  rw [← e2, ← foldl_rep its k (acc ++ its), ← e, List.replicate_succ, List.foldl_cons]

section
variable {X : Cx} {pins : List (Addr × Obj)} {σ : St} {H : Hp} {s : Shared} {l b : Addr} {xs ys zs : List V}

theorem Inv.lset {its its' : List Value} {n : Nat} {f : Array Value → Array Value} {t' : Nat} (I : Inv X pins σ H s) (hH : H l = some (.lst xs))
  (e : s.heap.get? l = some { cls := .type "list", data := .seq its.toArray n }) (hf : f its.toArray = its'.toArray) (hv : Vals ys its') (hz : ys.length ≤ sizeLine) :
  Inv X pins σ (upd H l (.lst ys)) { s with heap := s.heap.update l (Obj.mapSeq f), toks := t' } := by
 have q := PySem.IsL.update e f
 rw [hf] at q
 refine I.write (x := l) (e := l) (by rw [hH]; exact trivial) (.inl rfl) (fun b' u hb hu => (Heap.get?_update_other s.heap (Obj.mapSeq f) (Ne.symm hb)).trans hu) ⟨_, q⟩ ?_
 exact ⟨hz, its', _, hv, q⟩
theorem Inv.lnew {its : List Value} {t' : Nat} (I : Inv X pins σ H s) (hv : Vals ys its) (hz : ys.length ≤ sizeLine) :
  Inv X pins σ (upd H s.heap.objs.size (.lst ys)) { s with heap := s.heap.push { cls := .type "list", data := .seq its.toArray }, toks := t' } :=
 I.laid (fun _ _ q => Heap.get?_push_of_some _ q) (Nat.le_refl _) ⟨hz, its, 0, hv, Heap.get?_push_size _ rfl⟩
theorem Inv.fresh (I : Inv X pins σ H s) : H s.heap.objs.size = none := I.hok.fresh (Nat.le_refl _)
theorem Inv.lstM (I : Inv X pins σ H s) (hH : H l = some (.lst xs)) : xs.length ≤ sizeLine ∧ ∃ (its : List Value) (n : Nat), Vals xs its ∧ xs.length = its.length ∧ s.heap.get? l = some { cls := .type "list", data := .seq its.toArray n } := by
 obtain ⟨z, its, n, r, e⟩ := I.hok l _ hH
 exact ⟨z, its, n, r, r.length, e⟩

theorem notLongL {n : Nat} (h : n ≤ sizeLine) : Builtin.List.listTooLong n = false := by
 unfold Builtin.List.listTooLong
 exact decide_eq_false (by omega)
end

section
variable {X : Cx}

noncomputable def rAppend : V → List V → Hp → VK → Prop := fun x vs H Q => ∃ l xs y, x = .ref l ∧ vs = [y] ∧ H l = some (.lst xs) ∧ xs.length < sizeLine ∧ Q .non (upd H l (.lst (xs ++ [y])))
theorem mt_append : MtM X "list.append" rAppend := by
 intro pins s σ H x vs v us Q I rx rv h
 obtain ⟨l, xs, y, rfl, rfl, hH, hz, q⟩ := h
 cases rx
 obtain ⟨u, rfl, ru⟩ := rv.one
 obtain ⟨z, its, n, r, hl, e⟩ := I.lstM hH
 refine call_meets F.slot_list_append ⟨_, e, rfl⟩ F.entry_list_append (F.args_list_append_2 _ _) (PySem.list_append l its.toArray n u (by rw [List.size_toArray]; omega)) ⟨e, ?_⟩
 refine ⟨.non, _, I.lset (its' := its ++ [u]) hH e (by simp) (r.append (.cons ru .nil)) ?_, rfl, q⟩
 rw [List.length_append, List.length_singleton]
 omega

noncomputable def rRep : R2 := fun x y H Q => ∃ l k xs, x = .ref l ∧ y = .int k ∧ H l = some (.lst xs) ∧ -(2 ^ 63) ≤ k ∧ k < 2 ^ 63 ∧ xs.length * k.toNat ≤ sizeLine ∧
 ∀ p, H p = none → Q (.ref p) (upd H p (.lst (List.replicate k.toNat xs).flatten))
theorem len_rep {α : Type} (xs : List α) (k : Nat) : (List.replicate k xs).flatten.length = k * xs.length := by
 induction k with
 | zero => simp
 | succ k ih => rw [List.replicate_succ, List.flatten_cons, List.length_append, ih, Nat.succ_mul, Nat.add_comm]
theorem op_rep : OpR X (binaryOp .Mult) rRep := by
 intro pins s σ H x y v u Q I rx ry h
 obtain ⟨l, k, xs, rfl, rfl, hH, h1, h2, hz, q⟩ := h
 cases rx
 obtain ⟨t, rfl⟩ := ry
 obtain ⟨z, its, n, r, hl, e⟩ := I.lstM hH
 have hlen : its.toArray.size * k.toNat ≤ sizeLine := by rw [List.size_toArray, ← hl]; exact hz
 have hcap : ¬ its.toArray.size * k.toNat > (2 ^ 63 - 1) / 8 := by
  have : (sizeLine : Nat) ≤ (2 ^ 63 - 1) / 8 := by decide
  omega
 have hfit : ¬ (!Builtin.List.listFitsIndex k) = true := by
  rw [fitsIndex_both h1 h2]
  exact Bool.false_ne_true
 have hlong : ¬ Builtin.List.listTooLong (its.toArray.size * k.toNat) = true := by
  rw [notLongL hlen]
  exact Bool.false_ne_true
 have hnew : List.foldl (fun x1 x2 => x1 ++ x2) #[] (List.replicate (if its.toArray.isEmpty = true then 0 else k.toNat) its.toArray) = (List.replicate k.toNat its).flatten.toArray := by
  have f0 : ∀ m : Nat, List.foldl (fun x1 x2 => x1 ++ x2) #[] (List.replicate m its.toArray) = (List.replicate m its).flatten.toArray := fun m => by
   have := foldl_rep its m []
   rw [List.nil_append] at this
   exact this
  rw [f0]
  cases its with
  | nil => simp
  | cons a r' => rw [if_neg (by simp)]
 refine wpAny_binaryOp_repeat_ref (T := "list") (U := "int") (by decide) ⟨_, e, rfl⟩ (fun s' => typeIs_int s' k t) noFill_list_mul F.fills_int_mul F.slot_int_rmul repeat_list F.slot_int_index.lookup
  (call_meets F.slot_int_rmul (typeIs_int s k t) F.entry_int_rmul (F.args_int_rmul_2 _ _) (int___rmul___int_list k t l its.toArray n)
   ⟨e, rfl, ⟨_, e, rfl⟩, call_meets F.slot_list_mul ⟨_, e, rfl⟩ F.entry_list_mul (F.args_list_mul_2 _ _) (AutoListH.list___mul___list_int_3 l its.toArray n k t hfit hcap hlong) ⟨e, ?_⟩⟩)
 rw [hnew]
 exact ⟨.ref _, _, I.lnew (t' := s.toks) (r.rep k.toNat) (by rw [len_rep, Nat.mul_comm]; exact hz), rfl, q _ I.fresh⟩

end

section
variable {prog : Program} {w : World} {A : Around} {E : Value → Shared → Prop} {s : Shared}
end

section
variable {X : Cx}
end
end L2

namespace Att
open PySem PySem.W PySem.Calls PyProof.Rows

theorem ints_of_wellAll {P : Params} {h : Heap} : ∀ (ns : List Int) (vs : List Value), WellAll P h vs (ns.map WData.int) → IntsAre vs ns := by
 intro ns
 induction ns with
 | nil =>
  intro vs w
  rw [List.map_nil] at w
  cases w
  exact .nil
 | cons n ns ih =>
  intro vs w
  rw [List.map_cons] at w
  cases w with
  | cons a b =>
   cases a
   exact .cons _ _ (ih _ b)

theorem script_of {l : OpenLaw} {n : Nat} (hn : l.most = some n) {P : Params} {h : Heap} {args : List WData} {vals : List Value}
  (hpre : l.row.toRowW.claim.pre args = true) (hwl : WellAll P h vals args) :
  ∃ a vs ns, vals = [Value.ref a] ∧ args = [WData.list (ns.map WData.int)] ∧ h.get? a = some { cls := .type "list", data := .seq vs.toArray } ∧ IntsAre vs ns ∧ ns.length ≤ n := by
 have hsh : WShape.hasAll [] args [.list .int] = true := (pre_splitW hpre).1
 have hc : l.pre.holds [] { args := args } = true := (pre_splitW hpre).2
 obtain ⟨d, r, rfl, h1, h2⟩ := hasAllW_cons hsh
 obtain rfl := hasAllW_nil h2
 obtain ⟨xs, rfl, h3⟩ := hasW_list h1
 obtain ⟨ns, rfl⟩ := items_int h3
 have hlen : ns.length ≤ n := by
  unfold OpenLaw.pre at hc
  have h4 : (WTm.not (.lt (.lit (.int (n : Int))) (.len (.arg 0)))).holds [] { args := [.list (ns.map .int)] } = true := by
   have h4 := (holds_andW hc).1
   rw [hn] at h4
   exact h4
  have h5 := condW_of h4 (w_not (w_lt w_lit (w_len_list (w_arg rfl))))
  rw [List.length_map] at h5
  refine Nat.le_of_not_lt fun q => ?_
  have q' : (n : Int) < ((ns.length : Nat) : Int) := by omega
  first
   | (rw [decide_eq_true q'] at h5; exact absurd h5 (by decide))
   | (simp at h5; omega)
 cases hwl with
 | cons w1 w2 =>
  cases w2
  cases w1 with
  | list ho hall => exact ⟨_, _, ns, rfl, rfl, ho, ints_of_wellAll ns _ hall, hlen⟩

theorem post_true (l : OpenLaw) (args : List WData) : l.row.toRowW.claim.post args (.bool true) args = true :=
 postW_of (r := l.row.toRowW) (X := (true == true))
  (show WShape.has [] (.bool true) .bool = true by first | rfl | decide | simp [WShape.has, WShape.arms, WShape.armsAll])
  (show (WTm.eq .res (.lit (.bool true))).value [] { args := args, res := some (.bool true), after := args } = some (.bool (true == true)) from w_eq_bool (w_res rfl) w_lit) rfl

theorem attach_call {l : OpenLaw} {n : Nat} {q : Program} {loose : List Str} {XP : (Str → Option Value) → Heap → Prop} {YP : World → Heap → Prop} {d : DefRec}
  (hn : l.most = some n) (hdf : d.params.defaults = [])
  (call : ∀ (w : World) (s₀ s₁ : Shared) (mg mb : Str → Option Value) (fa : Addr) (o : Obj) (pm cd doc : Value) (a : Addr) (vs : List Value) (ns : List Int),
   Ground q loose [] XP w s₀ mg mb s₁.heap → YP w s₁.heap →
   s₁.heap.get? fa = some o → o.data = .func (docDef d.name d.params d.body d.scope pm cd doc) → s₁.heap.CodeRec cd d.name → mg d.name = some (.ref fa) →
   s₁.heap.get? a = some { cls := .type "list", data := .seq vs.toArray } → IntsAre vs ns → ns.length ≤ n → s₁.gens = #[] →
   codeAny (model l.prog w) callerA (.call (.ref fa) ⟨[.ref a], []⟩) (fun r s' => r = .ok (.ret (.bool true)) ∧ OldK s₁.heap s'.heap ∧ s'.os = s₁.os ∧ AllBare s'.gens) s₁) :
  WalkO q loose XP YP l.row.toRowW d [] (fun f vs => PySem.call f vs) := by
 intro w s₀ s₁ mg mb G Y fa o pm cd doc dV kV ho hd hcd hD hmg hg args vals as hpre hlay hrd hwl hlo
 obtain rfl : dV = .none := Dflts.none hD hdf
 obtain rfl : kV = .none := Dflts.noKw hD
 obtain ⟨a, vs, ns, rfl, rfl, hobj, hints, hlen⟩ := script_of hn hpre hwl
 refine enter_call (codeAny_mono (call w s₀ s₁ mg mb fa o pm cd doc a vs ns G Y ho (fd_plain hd) hcd hmg hobj hints hlen hg) fun r s' hq => ?_)
 obtain ⟨rfl, h2, h3, h4⟩ := hq
 exact ⟨.inl ⟨.bool true, .bool true, [], rfl, fun _ => rfl, .bool true, post_true l _, fun _ => ⟨List.Pairwise.nil, fun _ hm => (nomatch hm)⟩⟩, h2, h3, h4⟩

section
variable {prog : Program} {w : World} {A : Around} {E : Value → Shared → Prop} {s : Shared} {K : Frag}

end
end Att

namespace L2
open PySem PySem.Spec PyProof.Rows

theorem vals_ints : ∀ {vs : List Value} {ns : List Int}, IntsAre vs ns → Vals (ns.map V.int) vs
 | _, _, .nil => .nil
 | _, _, .cons n t h => .cons ⟨t, rfl⟩ (vals_ints h)

noncomputable def Only (H : Hp) : Prop := ∀ b, H b = none ∨ ∃ o xs, H b = some (.frz o (.lst xs))

theorem law_call {P : Program} {w : World} {K : PySem.W.Frag} {mg mb : Str → Option Value} {CX : CXT} {k : Nat} {fa a : Addr} {fd : FuncData} {x : Str} {sp : Sp} {s₁ : Shared} {vs : List Value} {ns : List Int}
  (KX : K.In s₁.heap) (hns : s₁.heap.Ns mainGlobals mg) (hb : s₁.heap.Ns builtinsNs mb) (hbb : ∀ x : Str, x ≠ "__name__" → mb x = bootBuiltins x) (hlim : s₁.heap.NoLimit) (hg : s₁.gens = #[])
  (ha : s₁.heap.get? a = some { cls := .type "list", data := .seq vs.toArray }) (hi : IntsAre vs ns) (hl : ns.length ≤ sizeLine) (hr : Room k callerA)
  (F : ∀ base : Heap, K.In base → base.Ns mainGlobals mg → FnOk P w K mg base CX k fa fd [x] sp) (hbind : ∀ (s : Shared) (u : Value), BindsTo s fd ⟨[u], []⟩ [(x, u)])
  (hsp : ∀ H : Hp, Only H → SqL K H a (ns.map V.int) → sp [.ref a] H (fun v _ => v = .bl true) fun _ _ _ => False)
  (hCX : ∀ H e s', CX [] H s₁ (fun _ _ _ => False) e s' → False) :
  codeAny (model P w) callerA (.call (.ref fa) ⟨[.ref a], []⟩) (fun r s' => r = .ok (.ret (.bool true)) ∧ OldK s₁.heap s'.heap ∧ s'.os = s₁.os ∧ AllBare s'.gens) s₁ := by
 have rv := vals_ints hi
 have lenV := hi.length
 -- from an abstract heap in which nothing but the script may be tracked
 have core : ∀ H : Hp, Only H → SqL K H a (ns.map V.int) → HOk P w H s₁.heap → (∀ b, H b ≠ none → b = a) → (H a ≠ none → K.lookup a = none) →
   codeAny (model P w) callerA (.call (.ref fa) ⟨[.ref a], []⟩) (fun r s' => r = .ok (.ret (.bool true)) ∧ OldK s₁.heap s'.heap ∧ s'.os = s₁.os ∧ AllBare s'.gens) s₁ := by
  intro H hO hS hok hA hK
  have base_of : ∀ {b : Addr} {o : Obj}, s₁.heap.get? b = some o → H b = none → (hidT s₁.heap H).get? b = some o := fun e n => hidT_get e n
  have noA : ∀ {b : Addr} {o : Obj} {es : Array DictEntry} {ep : Nat}, s₁.heap.get? b = some o → o.data = .dict es ep → H b = none := fun {b o es ep} e d => by
   cases q : H b with
   | none => rfl
   | some u =>
    have e' : b = a := hA b (by rw [q]; simp)
    subst e'
    rw [ha] at e; cases e
    have d' : Data.seq vs.toArray _ = Data.dict es ep := d
    cases d'
  have nsK : ∀ {b : Addr} {m : Str → Option Value}, s₁.heap.Ns b m → (hidT s₁.heap H).Ns b m := fun {b m} ⟨o, es, ep, e, d, r⟩ => ⟨o, es, ep, base_of e (noA e d), d, r⟩
  have hKb : K.In (hidT s₁.heap H) := fun b o e => base_of (KX b o e) (by
   cases q : H b with
   | none => rfl
   | some u =>
    have e' : b = a := hA b (by rw [q]; simp)
    subst e'
    rw [hK (by rw [q]; simp)] at e; cases e)
  have hM : Mod K mg (hidT s₁.heap H) := ⟨hKb, nsK hns, ⟨mb, nsK hb, hbb⟩, let ⟨mc, h1, h2⟩ := hlim; ⟨mc, nsK h1, h2⟩⟩
  have e0 : Env0 P w K mg (hidT s₁.heap H) callerA [] s₁ H := ⟨rfl, hM, fun b o e => of_hidT e, Nat.le_of_eq (hidT_size _ _), trivial, fun b hb => absurd (show b ∈ ([] : List Addr) from hb) (by simp), hok, .of_eq hg⟩
  refine codeAny_mono ((F _ hKb (nsK hns)).run callerA [] s₁ H ⟨[.ref a], []⟩ [.ref a] [.ref a] _ _ hr e0 (hbind s₁ (.ref a)) (.cons rfl .nil) (hsp H hO hS)) fun r s' h => ?_
  cases r with
  | error e => exact (hCX H e s' h).elim
  | ok fl =>
   cases fl with
   | next => exact False.elim h
   | brk => exact False.elim h
   | cont => exact False.elim h
   | ret u =>
    obtain ⟨v, H', os, bare, un, hok', r', q⟩ := h
    have q' : v = .bl true := q
    subst q'
    obtain rfl : u = Value.bool true := r'
    refine ⟨rfl, OldK.of_keep fun b o e => ?_, os, bare⟩
    cases q : H b with
    | none => exact un.keep b o e q (by intro z; exact absurd (show b ∈ ([] : List Addr) from z) (by simp)) (by simp)
    | some u =>
     rcases hO b with z | ⟨ob, xs, z⟩
     ·rw [q] at z; cases z
     ·have z2 := un.frzs b ob _ z
      obtain ⟨e1, _⟩ := hok b _ z
      obtain ⟨e2, _⟩ := hok' b _ z2
      rw [e] at e1; cases e1
      exact e2
 cases hk : K.lookup a with
 | some o =>
  -- the script is one of the module's own objects
  have e := KX a o hk
  rw [ha] at e
  cases e
  refine core (fun _ => none) (fun _ => .inl rfl) (.inr ⟨_, vs.toArray, _, hk, rfl, rfl, rfl, by rw [List.size_toArray, lenV]; exact hl, by simpa using rv⟩) (fun b u z => by have z' : (none : Option HO) = some u := z; cases z') (fun b z => absurd rfl z) fun z => absurd rfl z
 | none =>
  refine core (fun b => if b = a then some (.frz { cls := .type "list", data := .seq vs.toArray } (.lst (ns.map V.int))) else none) (fun b => ?_) (.inl (.inr ⟨{ cls := .type "list", data := .seq vs.toArray }, if_pos rfl⟩)) (fun b u z => ?_) (fun b z => ?_) fun _ => hk
  ·by_cases hb : b = a
   ·exact .inr ⟨_, _, if_pos hb⟩
   ·exact .inl (if_neg hb)
  ·by_cases hb : b = a
   ·have z' := (if_pos hb).symm.trans z
    cases z'
    subst hb
    exact ⟨ha, by rw [List.length_map]; exact hl, vs, _, rv, ha⟩
   ·have z' := (if_neg hb).symm.trans z
    cases z'
  ·by_cases hb : b = a
   ·exact hb
   ·exact absurd (if_neg hb) z
end L2

namespace L2
open PySem PySem.Spec PyProof.Rows

theorem walk_of {l : PySem.W.OpenLaw} {n k : Nat} {q : Program} {loose : List Str} {XP : (Str → Option Value) → Heap → Prop} {YP : World → Heap → Prop} {d : DefRec} {K : Params → PySem.W.Frag} {CX : World → CXT} {sp : World → Sp} {x : Str}
  (hn : l.most = some n) (hn2 : n ≤ sizeLine) (hdf : d.params.defaults = []) (hr : Room k callerA)
  (hY : ∀ (w : World) (h : Heap), YP w h → (K w.params).In h)
  (F : ∀ (w : World) (mg : Str → Option Value) (fa : Addr) (h : Heap), (K w.params).In h → h.Ns mainGlobals mg → mg d.name = some (.ref fa) →
   ∃ fd : FuncData, (∀ (s : Shared) (u : Value), BindsTo s fd ⟨[u], []⟩ [(x, u)]) ∧
    ∀ base : Heap, (K w.params).In base → base.Ns mainGlobals mg → FnOk l.prog w (K w.params) mg base (CX w) k fa fd [x] (sp w))
  (hsp : ∀ (w : World) (H : Hp) (a : Addr) (ns : List Int), ns.length ≤ n → Only H → SqL (K w.params) H a (ns.map V.int) → sp w [.ref a] H (fun v _ => v = .bl true) fun _ _ _ => False)
  (hCX : ∀ (w : World) (H : Hp) (s : Shared) (e : Value) (s' : Shared), CX w [] H s (fun _ _ _ => False) e s' → False) :
  PySem.W.WalkO q loose XP YP l.row.toRowW d [] (fun f vs => PySem.call f vs) := by
 refine Att.attach_call hn hdf fun w s₀ s₁ mg mb fa o pm cd doc a vs ns G Y ho hd hcd hmg hobj hints hlen hg => ?_
 have KX := hY w _ Y
 obtain ⟨fd, hb, hF⟩ := F w mg fa _ KX G.T.g hmg
 exact law_call KX G.T.g G.T.b G.T.builtins G.T.nolimit hg hobj hints (Nat.le_trans hlen hn2) hr hF hb (fun H hO hS => hsp w H a ns hlen hO hS) fun H e s' => hCX w H s₁ e s'
end L2


namespace L2
open PySem PySem.Spec PyProof.Rows

noncomputable def defArgs (s : Stmt) : Arguments := match s with
 | .FunctionDef _ a _ _ _ _ _ _ _ _ => a
 | _ => { posonlyargs := [], args := [], vararg := none, kwonlyargs := [], kw_defaults := [], kwarg := none, defaults := [] }
noncomputable def defBody (s : Stmt) : List Stmt := match s with
 | .FunctionDef _ _ b _ _ _ _ _ _ _ => b
 | _ => []
noncomputable def defScope (s : Stmt) : Scope := match s with
 | .FunctionDef _ _ _ _ _ _ sc _ _ _ => sc
 | _ => { kind := .function, names := [], isGenerator := false, isCoroutine := false }

noncomputable abbrev CX0 : CXT := fun _ _ _ _ _ _ => False
noncomputable abbrev E0 : XK := fun _ _ _ => False
theorem pass0 {X : Cx} : Passes CX0 X E0 := fun _ _ _ _ _ _ _ h => h.elim

structure Fun (K : PySem.W.Frag) (x qual : Str) (st : Stmt) (f : Addr) (fd : FuncData) : Prop where
 ex : ∃ (oc : Value) (od : Option Addr) (kV doc pm : Value) (an : Option Addr) (cdv ct : Value) (osl : Array (Option Value)),
  fd = PySem.W.fnOf x qual (defArgs st) (defBody st) (defScope st) .none kV doc pm an cdv ct ∧ K.lookup f = some ⟨oc, od, .func fd, osl⟩ ∧ PySem.W.codeIn K cdv qual = true
 kp : PySem.W.keepIn K (.ref f) = true
section
variable {P : Program} {w : World} {K : PySem.W.Frag} {mg : Str → Option Value} {base : Heap}
theorem Fun.ok {x qual : Str} {st : Stmt} {f : Addr} {fd : FuncData} {N ps : List Str} {k : Nat} {sp : Sp} (F : Fun K x qual st f fd) (S : FnScope N ps (defScope st)) (len : ∀ vs H Q E, sp vs H Q E → vs.length = ps.length)
  (hbody : ∀ (cdv : Value) (A : Around) (outer : List Env) (s : Shared) (H : Hp) (vs : List V) (Q : VK) (E : XK), Room k (A.deeper (envOfC qual (defScope st) s.heap.objs.size f cdv)) → sp vs H Q E →
   ∃ t, PSs (cxOf CX0 P w K mg base N qual (defScope st) f cdv A outer s H E).nox (defBody st) t ∧ t { nx := fun _ H' => Q .non H', rt := Q } (start N vs) H) : FnOk P w K mg base CX0 (k + 1) f fd ps sp := by
 obtain ⟨oc, od, kV, doc, pm, an, cdv, ct, osl, rfl, lk, hcd⟩ := F.ex
 refine fn_of lk hcd S len fun A outer s H vs Q E hr hsp => ?_
 obtain ⟨t, h, q⟩ := hbody cdv A outer s H vs Q E hr hsp
 exact ⟨t, h.nox, q⟩
theorem Fun.binds {x qual : Str} {st : Stmt} {f : Addr} {fd : FuncData} {ps : List Str} (F : Fun K x qual st f fd)
  (h : ∀ (kV doc pm : Value) (an : Option Addr) (cdv ct : Value) (us : List Value), us.length = ps.length → bindArgs (PySem.W.fnOf x qual (defArgs st) (defBody st) (defScope st) .none kV doc pm an cdv ct) ⟨us, []⟩ = pure (ps.zip us)) : Binds K fd ps [] := by
 obtain ⟨oc, od, kV, doc, pm, an, cdv, ct, osl, rfl, lk, hcd⟩ := F.ex
 exact .all (h kV doc pm an cdv ct)
theorem fun_mk {x qual : Str} {st : Stmt} {f : Addr} {oc : Value} {od an : Option Addr} {osl : Array (Option Value)} {kV doc pm cdv ct : Value} (l : K.lookup f = some ⟨oc, od, .func (PySem.W.fnOf x qual (defArgs st) (defBody st) (defScope st) .none kV doc pm an cdv ct), osl⟩)
  (c : PySem.W.codeIn K cdv qual = true) (k : PySem.W.keepIn K (.ref f) = true) : Fun K x qual st f (PySem.W.fnOf x qual (defArgs st) (defBody st) (defScope st) .none kV doc pm an cdv ct) := ⟨⟨oc, od, kV, doc, pm, an, cdv, ct, osl, rfl, l, c⟩, k⟩
end
section
variable {X : Cx}
end

noncomputable def Same (H H' : Hp) : Prop := ∀ b o, H b = some o → H' b = some o
theorem Same.refl (H : Hp) : Same H H := fun _ _ h => h
theorem Same.trans {H H1 H2 : Hp} (a : Same H H1) (b : Same H1 H2) : Same H H2 := fun c o h => b c o (a c o h)
theorem Same.free {H H' : Hp} (e : Same H H') {l : Addr} (h : H' l = Option.none) : H l = Option.none := by
 cases q : H l with
 | none => rfl
 | some o =>
  rw [e l o q] at h
  cases h
theorem Same.seq {K : PySem.W.Frag} {H H' : Hp} {a : Addr} {xs : List V} (e : Same H H') (h : SqL K H a xs) : SqL K H' a xs := by
 rcases h with (h | ⟨o, h⟩) | h
 ·exact .inl (.inl (e _ _ h))
 ·exact .inl (.inr ⟨o, e _ _ h⟩)
 ·exact .inr h

end L2

set_option Elab.async false
set_option linter.all false
set_option maxRecDepth 100000
namespace L2
open PySem PySem.Spec PyProof.Rows

section
variable {κ : Type} [DecidableEq κ]
noncomputable def valV (kvs : List (κ × V)) (k : κ) : Option V := (kvs.find? fun kv => decide (kv.1 = k)).map (·.2)
noncomputable def putK (kvs : List (κ × V)) (k : κ) (v : V) : List (κ × V) :=
 if (kvs.any fun kv => decide (kv.1 = k)) = true then kvs.map (fun kv => if kv.1 = k then (kv.1, v) else kv) else kvs ++ [(k, v)]
theorem valV_pos {p : κ × V} {r : List (κ × V)} {k : κ} (e : p.1 = k) : valV (p :: r) k = some p.2 := by simp [valV, List.find?_cons, e]
theorem valV_neg {p : κ × V} {r : List (κ × V)} {k : κ} (e : ¬ p.1 = k) : valV (p :: r) k = valV r k := by simp [valV, List.find?_cons, e]
theorem valV_any (k : κ) : ∀ kvs : List (κ × V), (kvs.any fun kv => decide (kv.1 = k)) = (valV kvs k).isSome
 | [] => rfl
 | p :: r => by
  rw [List.any_cons]
  by_cases e : p.1 = k
  ·simp only [valV_pos e, decide_eq_true e, Bool.true_or, Option.isSome_some]
  ·rw [valV_neg e, decide_eq_false e, Bool.false_or]; exact valV_any k r
theorem length_putK (kvs : List (κ × V)) (k : κ) (v : V) : (putK kvs k v).length ≤ kvs.length + 1 := by
 unfold putK
 split
 ·rw [List.length_map]; omega
 ·rw [List.length_append, List.length_cons, List.length_nil]; omega
theorem putK_new {kvs : List (κ × V)} {k : κ} (v : V) (h : valV kvs k = none) : putK kvs k v = kvs ++ [(k, v)] := by
 unfold putK
 rw [valV_any, h]
 exact if_neg (by decide)

theorem KV.val {kvs : List (κ × V)} {vs : List (κ × Value)} (r : KV kvs vs) (k : κ) : RelO (valV kvs k) (valueAt vs k) := by
 unfold KV at r
 induction r with
 | nil => exact True.intro
 | @cons p q ps qs h t ih =>
  obtain ⟨h1, h2⟩ := h
  by_cases e : p.1 = k
  ·have e' : q.1 = k := h1.symm.trans e
   have b : valueAt (q :: qs) k = some q.2 := by simp [valueAt, List.find?_cons, e']
   rw [valV_pos e, b]; exact h2
  ·have e' : ¬ q.1 = k := fun z => e (h1.trans z)
   have b : valueAt (q :: qs) k = valueAt qs k := by simp [valueAt, List.find?_cons, e']
   rw [valV_neg e, b]; exact ih
theorem KV.any {kvs : List (κ × V)} {vs : List (κ × Value)} (r : KV kvs vs) (k : κ) : (kvs.any fun kv => decide (kv.1 = k)) = vs.any fun kv => decide (kv.1 = k) := by
 unfold KV at r
 induction r with
 | nil => rfl
 | cons h t ih => rw [List.any_cons, List.any_cons, ih, h.1]
theorem KV.repl {kvs : List (κ × V)} {vs : List (κ × Value)} (r : KV kvs vs) (k : κ) {y : V} {u : Value} (ry : RelV y u) :
  KV (kvs.map fun kv => if kv.1 = k then (kv.1, y) else kv) (vs.map fun kv => if kv.1 = k then (kv.1, u) else kv) := by
 unfold KV at r ⊢
 induction r with
 | nil => exact .nil
 | @cons p q ps qs h t ih =>
  rw [List.map_cons, List.map_cons]
  refine .cons ?_ ih
  obtain ⟨h1, h2⟩ := h
  by_cases e : p.1 = k
  ·rw [if_pos e, if_pos (h1.symm.trans e)]; exact ⟨h1, ry⟩
  ·rw [if_neg e, if_neg (fun z => e (h1.trans z))]; exact ⟨h1, h2⟩
theorem KV.put {kvs : List (κ × V)} {vs : List (κ × Value)} (r : KV kvs vs) (k : κ) {y : V} {u : Value} (ry : RelV y u) : KV (putK kvs k y) (stored vs k u) := by
 unfold putK stored
 rw [r.any k]
 by_cases e : (vs.any fun kv => decide (kv.1 = k)) = true
 ·rw [if_pos e, if_pos e]; exact r.repl k ry
 ·rw [if_neg e, if_neg e]; exact Paired.snoc r ⟨rfl, ry⟩
theorem KV.length {kvs : List (κ × V)} {vs : List (κ × Value)} (r : KV kvs vs) : kvs.length = vs.length := Paired.length r
end


theorem kV_is {P : Program} {w : World} {k : Key} {u : Value} (r : RelV (kV k) u) : (mixKind P w).is k u = true := by
 cases k with
 | inl i => obtain ⟨t, e⟩ := (show ∃ t, u = Value.int i t from r); subst e; exact mixKind_int P w i t
 | inr x => obtain ⟨t, e⟩ := (show ∃ t, u = Value.str x t from r); subst e; exact mixKind_str P w x t
section
variable {P : Program} {w : World} {H : Hp} {h : Heap} {a : Addr}
theorem rd_of {u : HO} (ok : HOk P w H h) (e : Rd H a u) : ObjOk P w H h a u := e.ok ok
theorem dk_rd {kvs : List (Key × V)} (ok : HOk P w H h) (e : Rd H a (.dK kvs)) : kvs.length ≤ sizeLine ∧ (a == sysModules) = false ∧ ∃ vs, KV kvs vs ∧ h.DictOf (mixKind P w) a vs :=
 show ObjOk P w H h a (.dK kvs) from rd_of ok e
theorem dk_of {kvs : List (Key × V)} (ok : HOk P w H h) (e : H a = some (.dK kvs)) : kvs.length ≤ sizeLine ∧ (a == sysModules) = false ∧ ∃ vs, KV kvs vs ∧ h.DictOf (mixKind P w) a vs := dk_rd ok (.inl e)
end

noncomputable def DGet (H : Hp) (a : Addr) (y : V) (r : Option V) : Prop :=
 (∃ kvs k, Rd H a (.dK kvs) ∧ y = kV k ∧ r = valV kvs k) ∨ ∃ kvs k b, Rd H a (.dT kvs) ∧ y = .ref b ∧ H b = some (.tup (k.map kV)) ∧ r = valV kvs k
noncomputable def DPut (H : Hp) (a : Addr) (y v : V) (H' : Hp) : Prop :=
 (∃ kvs k, H a = some (.dK kvs) ∧ y = kV k ∧ kvs.length < sizeLine ∧ H' = upd H a (.dK (putK kvs k v))) ∨
 ∃ kvs k b, H a = some (.dT kvs) ∧ y = .ref b ∧ H b = some (.tup (k.map kV)) ∧ kvs.length < sizeLine ∧ H' = upd H a (.dT (putK kvs k v))
theorem DGet.k {H : Hp} {a : Addr} {kvs : List (Key × V)} {k : Key} (e : H a = some (.dK kvs)) : DGet H a (kV k) (valV kvs k) := .inl ⟨kvs, k, .inl e, rfl, rfl⟩
theorem DGet.t {H : Hp} {a b : Addr} {kvs : List (List Key × V)} {k : List Key} (e : H a = some (.dT kvs)) (eb : H b = some (.tup (k.map kV))) : DGet H a (.ref b) (valV kvs k) := .inr ⟨kvs, k, b, .inl e, rfl, eb, rfl⟩
theorem DPut.k {H : Hp} {a : Addr} {kvs : List (Key × V)} {k : Key} {v : V} (e : H a = some (.dK kvs)) (hl : kvs.length < sizeLine) : DPut H a (kV k) v (upd H a (.dK (putK kvs k v))) := .inl ⟨kvs, k, e, rfl, hl, rfl⟩
theorem DPut.t {H : Hp} {a b : Addr} {kvs : List (List Key × V)} {k : List Key} {v : V} (e : H a = some (.dT kvs)) (eb : H b = some (.tup (k.map kV))) (hl : kvs.length < sizeLine) :
  DPut H a (.ref b) v (upd H a (.dT (putK kvs k v))) := .inr ⟨kvs, k, b, e, rfl, eb, hl, rfl⟩


section
variable {X : Cx} {pins : List (Addr × Obj)} {σ : St} {H : Hp} {s : Shared} {a : Addr} {y v : V} {u r : Value} {o : Option V} {A : Around} {E : Value → Shared → Prop}

theorem Inv.big (I : Inv X pins σ H s) : sysModules < s.heap.objs.size := by
 have h : mainGlobals < s.heap.objs.size := (I.mod.glob.keeps I.bk).lt
 exact Nat.lt_trans (by decide) h

theorem d_write {h' : Heap} {t' : Nat} {ob : HO} (I : Inv X pins σ H s) (mu : Mut (H a)) (hs : Heap.SameBut a s.heap h') (he : ∃ q, h'.get? a = some q) (new : ObjOk X.prog X.w (upd H a ob) h' a ob) :
  Inv X pins σ (upd H a ob) { s with heap := h', toks := t' } :=
 I.write (x := a) (e := a) mu (.inl rfl) (fun b q hb z => (hs.2 b hb).trans z) he new
theorem dk_new {P : Program} {w : World} {H' : Hp} {h' : Heap} {kvs : List (Key × V)} {vs : List (Key × Value)} (z : kvs.length ≤ sizeLine) (hd : (a == sysModules) = false) (rel : KV kvs vs) (dd : h'.DictOf (mixKind P w) a vs) :
  ObjOk P w H' h' a (.dK kvs) := ⟨z, hd, vs, rel, dd⟩
end

section
variable {X : Cx} {pins : List (Addr × Obj)} {σ : St} {H : Hp} {s : Shared} {a : Addr} {kvs : List (Key × V)} {k : Key} {u : Value} {A : Around} {E : Value → Shared → Prop}
end


section
variable {X : Cx} {o i e value : Expr} {pos pos' tpos : Pos} {td ty tv : TE}
end


theorem dk_empty {P : Program} {w : World} {H : Hp} (h : Heap) (hb : sysModules < h.objs.size) : ObjOk P w H (h.push { cls := .type "dict", data := .dict #[] }) h.objs.size (.dK []) :=
 ⟨Nat.zero_le _, beq_eq_false_iff_ne.mpr (Ne.symm (Nat.ne_of_lt hb)), [], .nil, Heap.DictOf.new h⟩
noncomputable def tDNewK : TE := fun _ H Q => ∀ p, H p = none → Q (.ref p) (upd H p (.dK []))
section
variable {X : Cx} {pos : Pos}
theorem pe_dnewK : PE X (.Dict [] [] pos) tDNewK := fun pins s σ H Q I h =>
 wpAny_Dict_empty ⟨.ref s.heap.objs.size, _, I.laid (a := s.heap.objs.size) (o := .dK []) (t' := s.toks) (fun _ _ q => Heap.get?_push_of_some _ q) (Nat.le_refl _) (dk_empty s.heap I.big), rfl, h _ (I.hok.fresh (Nat.le_refl _))⟩
end

structure M1 (X : Cx) (o : Expr) (m : Str) (apos : Pos) (e : Expr) (cpos : Pos) : Prop where
 base : attributeBase o m X.env (eval o X.env) = eval o X.env
 few : ((backTo cpos (starEach [e] X.env)).all (fun x => !x.1) && (backToKw cpos (keywordEach [] X.env)).all (fun x => x.1.isSome)
  && decide (([e] : List Expr).length + ([] : List Keyword).length + (if ([] : List Keyword).isEmpty then 0 else 1) < 30)) = true
 line : (apos.endLine == cpos.line) = true
 trees : backTo cpos (starEach [e] X.env) = [(false, eval e X.env)]
structure M2 (X : Cx) (o : Expr) (m : Str) (apos : Pos) (e f : Expr) (cpos : Pos) : Prop where
 base : attributeBase o m X.env (eval o X.env) = eval o X.env
 few : ((backTo cpos (starEach [e, f] X.env)).all (fun x => !x.1) && (backToKw cpos (keywordEach [] X.env)).all (fun x => x.1.isSome)
  && decide (([e, f] : List Expr).length + ([] : List Keyword).length + (if ([] : List Keyword).isEmpty then 0 else 1) < 30)) = true
 line : (apos.endLine == cpos.line) = true
 trees : backTo cpos (starEach [e, f] X.env) = [(false, eval e X.env), (false, eval f X.env)]

section
variable {X : Cx} {pins : List (Addr × Obj)} {σ : St} {H : Hp} {s : Shared} {a : Addr} {y d : V} {u r : Value} {o : Option V} {A : Around} {E : Value → Shared → Prop}
end

section
variable {X : Cx} {o e f : Expr} {apos cpos : Pos} {td ty tx : TE}
end

section
variable {X : Cx} {pins : List (Addr × Obj)} {σ : St} {H : Hp} {s : Shared} {a : Addr} {kvs : List (Key × V)} {A : Around} {E : Value → Shared → Prop}
end


section
variable {X : Cx} {pins : List (Addr × Obj)} {σ : St} {H : Hp} {s : Shared} {a : Addr} {y : V} {u : Value} {A : Around} {E : Value → Shared → Prop}
end
end L2
set_option Elab.async false
set_option linter.all false
set_option autoImplicit false
namespace LH
open PySem PySem.W PySem.Calls PyProof.Rows

/-! ### the top of a program, run in one go over a tree -/
def runT (tb : String → Option Builtin) (p : Program) (w : World) (m : Nat) (ann : Option Value) : Nat → SharedT → Thread → Option SharedT
 | 0, _, _ => none
 | n + 1, s, t => match through t with
  | true => some s
  | false => match stepOk m ann t with
   | false => none
   | true => match stepT (denote tb) p w s t with
    | some r => runT tb p w m ann n r.1 r.2
    | none => none
section
variable {tb : String → Option Builtin} {p : Program} {w : World} {m : Nat} {ann : Option Value}
theorem runT_of : ∀ {n : Nat} {s s' : SharedT} {t : Thread}, runT tb p w m ann n s t = some s' → topRun tb p w m ann n s.abs t = some s'.abs
 | 0, _, _, _, h => by cases h
 | n + 1, s, s', t, h => by
  unfold runT at h
  unfold topRun
  cases he : through t with
  | true => rw [he] at h; cases h; rfl
  | false =>
   rw [he] at h
   cases hk : stepOk m ann t with
   | false => rw [hk] at h; cases h
   | true =>
    rw [hk] at h
    cases hs : stepT (denote tb) p w s t with
    | none => rw [hs] at h; cases h
    | some r => rw [hs] at h; rw [stepT_spec hs]; exact runT_of h
end
theorem left {p q : Program} {loose : List Str} {Xt : Shared → Bool} {α : Type} {Yf : Shared → α} {Ya : World → α} {N : Nat} {g0 : Bool} {T : Params → BT} {m : Nat} {life : Life} {ann : Option Value}
  (e : opening p = plainProg p.main.scope.names) (hN : Nat.ble 600 N = true) (f : ∀ s, fenceModules? p s = some s)
  (hb : ∀ P, boot_heap P = absHeap (T P) m life)
  (hs : ∀ P, ((boot_heap P).isNs mainGlobals, (boot_heap P).objs.size, (boot_heap P).nsMap mainGlobals "__annotations__") = (true, m, ann))
  (run : ∀ (w : World) (os : OsState), (runT treeTable p w m ann N ⟨T w.params, m, life, Array.mk [], boot_drawn, boot_toks, os⟩ (topStub p)).map
   (fun s => (staticsOk (importedModules p.main.body) (boot_heap w.params) s.abs.heap && namesBound p s.abs.heap && gensDone s.abs && laidKept (boot_heap w.params) s.abs.heap,
    openSeen q loose (importedModules p.main.body) Xt g0 s.abs, Yf s.abs)) = some (true, openGood q loose, Ya w)) : LeftO p q loose Xt Yf Ya N g0 := fun w => by
 obtain ⟨⟨h, gs, d, k, os⟩, e1, e2⟩ := Option.map_eq_some_iff.mp (boot_open e hN f w)
 obtain ⟨rfl, rfl, rfl, rfl⟩ : h = boot_heap w.params ∧ gs = Array.mk [] ∧ d = boot_drawn ∧ k = boot_toks := by simpa using e2
 obtain ⟨s, r1, r2⟩ := Option.map_eq_some_iff.mp (run w os)
 obtain ⟨l1, l2, l3⟩ : _ ∧ _ ∧ _ := by simpa only [Prod.mk.injEq] using r2
 obtain ⟨z1, z2, z3⟩ : _ ∧ _ ∧ _ := by simpa only [Prod.mk.injEq] using hs w.params
 have r := runT_of r1
 have ab : (SharedT.abs ⟨T w.params, m, life, Array.mk [], boot_drawn, boot_toks, os⟩) = ⟨boot_heap w.params, Array.mk [], boot_drawn, boot_toks, os⟩ := by
  unfold SharedT.abs; rw [hb w.params]
 rw [ab] at r
 have t : topFrom treeTable p w N ⟨boot_heap w.params, Array.mk [], boot_drawn, boot_toks, os⟩ = some s.abs := by
  unfold topFrom
  dsimp only
  rw [z1, z2, z3, r]
  show (match staticsOk (importedModules p.main.body) (boot_heap w.params) s.abs.heap && namesBound p s.abs.heap && gensDone s.abs && laidKept (boot_heap w.params) s.abs.heap with | true => some s.abs | false => none) = _
  rw [l1]
 unfold openEnds
 rw [e1]
 show (topFrom treeTable p w N _).map _ = _
 rw [t]
 exact congrArg some (Prod.ext l2 l3)
end LH

set_option Elab.async false
set_option linter.all false
set_option autoImplicit false
namespace LH
open PySem PySem.W PySem.Calls PyProof.Rows
set_option maxRecDepth 100000
noncomputable def bootT (P : Params) : BT := ((boot_heap P).objs.toList.foldl (fun (z : BT × Nat) o => (z.1.ins z.2 o, z.2 + 1)) (BT.nil, 0)).1
theorem boot_abs : ∀ P, boot_heap P = absHeap (bootT P) 11 {} := fun P => by kernel_rfl
theorem boot_says : ∀ P, ((boot_heap P).isNs mainGlobals, (boot_heap P).objs.size, (boot_heap P).nsMap mainGlobals "__annotations__") = (true, 11, some (.ref 6)) := fun P => by kernel_rfl
/-- what is asked beside the looks -/
noncomputable abbrev chk (p : Program) (w : World) (s : SharedT) : Bool := staticsOk (importedModules p.main.body) (boot_heap w.params) s.abs.heap && namesBound p s.abs.heap && gensDone s.abs && laidKept (boot_heap w.params) s.abs.heap
theorem two {α β σ : Type} {R : Option σ} {f : σ → α} {g : σ → β} {a : α} {b : β} (h1 : R.map f = some a) (h2 : R.map g = some b) : R.map (fun s => (f s, g s)) = some (a, b) := by
 cases R with
 | none => cases h1
 | some s => cases h1; cases h2; rfl
theorem left2 {p q : Program} {loose : List Str} {Xt : Shared → Bool} {α : Type} {Yf : Shared → α} {Ya : World → α} {N : Nat}
  (e : opening p = plainProg p.main.scope.names) (hN : Nat.ble 600 N = true) (f : ∀ s, fenceModules? p s = some s)
  (r1 : ∀ (w : World) (os : OsState), (runT treeTable p w 11 (some (.ref 6)) N ⟨bootT w.params, 11, {}, Array.mk [], boot_drawn, boot_toks, os⟩ (topStub p)).map (chk p w) = some true)
  (r2 : ∀ (w : World) (os : OsState), (runT treeTable p w 11 (some (.ref 6)) N ⟨bootT w.params, 11, {}, Array.mk [], boot_drawn, boot_toks, os⟩ (topStub p)).map (fun s => (openSeen q loose (importedModules p.main.body) Xt true s.abs).1) = some (openGood q loose).1)
  (r3 : ∀ (w : World) (os : OsState), (runT treeTable p w 11 (some (.ref 6)) N ⟨bootT w.params, 11, {}, Array.mk [], boot_drawn, boot_toks, os⟩ (topStub p)).map (fun s => (openSeen q loose (importedModules p.main.body) Xt true s.abs).2) = some (openGood q loose).2)
  (r4 : ∀ (w : World) (os : OsState), (runT treeTable p w 11 (some (.ref 6)) N ⟨bootT w.params, 11, {}, Array.mk [], boot_drawn, boot_toks, os⟩ (topStub p)).map (fun s => Yf s.abs) = some (Ya w)) : LeftO p q loose Xt Yf Ya N true :=
 left (T := bootT) (m := 11) (life := {}) (ann := some (.ref 6)) e hN f boot_abs boot_says fun w os => two (r1 w os) (two (two (r2 w os) (r3 w os)) (r4 w os))
end LH

set_option Elab.async false
set_option linter.all false
set_option autoImplicit false
namespace LH
open PySem PySem.W PySem.Calls PyProof.Rows
set_option maxRecDepth 100000
/-! ### the heap that the top leaves, written out whole -/
abbrev wh (L : Params → List Obj) (w : World) (d : Drawn) (k : Nat) (os : OsState) : Shared := ⟨⟨(L w.params).toArray, {}⟩, Array.mk [], d, k, os⟩
noncomputable abbrev chkS (p : Program) (w : World) (s : Shared) : Bool := staticsOk (importedModules p.main.body) (boot_heap w.params) s.heap && namesBound p s.heap && gensDone s && laidKept (boot_heap w.params) s.heap
theorem left3 {p q : Program} {loose : List Str} {Xt : Shared → Bool} {α : Type} {Yf : Shared → α} {Ya : World → α} {N : Nat} {L : Params → List Obj}
  (e : opening p = plainProg p.main.scope.names) (hN : Nat.ble 600 N = true) (f : ∀ s, fenceModules? p s = some s)
  (r : ∀ (w : World) (os : OsState), (runT treeTable p w 11 (some (.ref 6)) N ⟨bootT w.params, 11, {}, Array.mk [], boot_drawn, boot_toks, os⟩ (topStub p)).map (fun s => (s.tree.list s.n, s.life, s.gens)) = some (L w.params, {}, Array.mk []))
  (l1 : ∀ (w : World) (d : Drawn) (k : Nat) (os : OsState), chkS p w (wh L w d k os) = true)
  (l2 : ∀ (w : World) (d : Drawn) (k : Nat) (os : OsState), openSeen q loose (importedModules p.main.body) Xt true (wh L w d k os) = openGood q loose)
  (l3 : ∀ (w : World) (d : Drawn) (k : Nat) (os : OsState), Yf (wh L w d k os) = Ya w) : LeftO p q loose Xt Yf Ya N true :=
 left (T := bootT) (m := 11) (life := {}) (ann := some (.ref 6)) e hN f boot_abs boot_says fun w os => by
  obtain ⟨s, h1, h2⟩ := Option.map_eq_some_iff.mp (r w os)
  have hs : s.abs = wh L w s.drawn s.toks s.os := by
   obtain ⟨T, n, life, gens, drawn, tk, o⟩ := s
   simp only [Prod.mk.injEq] at h2
   obtain ⟨a1, a2, a3⟩ := h2
   subst a2 a3
   show (⟨⟨(T.list n).toArray, {}⟩, _, _, _, _⟩ : Shared) = _
   rw [a1]
  rw [h1, Option.map_some]
  exact congrArg some (by rw [hs]; exact Prod.ext (l1 w _ _ _) (Prod.ext (l2 w _ _ _) (l3 w _ _ _)))
end LH

namespace A
open PySem PySem.Spec PyProof.Rows L2
set_option maxRecDepth 100000
noncomputable def top (i : Nat) : Stmt := PySem.Challenge.pw_rollmend_k18_refused.main.body.getD i (.Pass ⟨0, 0, 0, 0⟩)
/-! what the top leaves behind -/
section
open PySem PySem.W
noncomputable def kn (P : Params) (x : String) (t : Tok) (v : Value) : DictEntry := { hash := PyData.keyHash P (Str.ofString x), key := Value.str (Str.ofString x) t, val := v }
noncomputable def k0 : Obj := { cls := .type "tuple", data := Data.seq #[] }
noncomputable def ks (x : String) (t : Tok) : Value := Value.str (Str.ofString x) t
noncomputable def kf (x : String) (i : Nat) := PySem.W.fnOf (Str.ofString x) (Str.ofString x) (L2.defArgs (top i)) (L2.defBody (top i)) (L2.defScope (top i))
noncomputable def ko (x : String) (i : Nat) (y : String) (t : Tok) (c : Addr) : Obj := ⟨.type "function", none, .func (kf x i (.none) (.none) (.none) (ks y t) (none) (.ref c) (.none)), #[]⟩
noncomputable def kc (x : String) (t : Tok) (l k : Int) (r : Addr) (v w : Value) (q : Addr) (n u : Nat) : Obj := { cls := .type "code", data := Data.fields #[ks x t, ks x (t + 1), ks "/claim/cut.py" (t + 2), .int l 0, .int k 0, .int 0 0, .int 0 0, .int 3 0, .ref r, .bool true, .int 181 0, .ref (r + 1), .none, v, w, .ref q, .int n 0, .int l 0, ks "/claim/cut.py" u] }
noncomputable def kb2 (_ : Params) : Obj := { cls := .none, data := Data.dict #[] }
noncomputable def kb3 (P : Params) : Obj := { cls := .type "dict", data := Data.dict #[kn P "__name__" 165 (ks "law_rollmend_k18_refused" 851), kn P "__doc__" 166 .none, kn P "__package__" 167 .none, kn P "__loader__" 168 (.builtin "__main__.__loader__#opaque"), kn P "__spec__" 169 .none, kn P "__annotations__" 170 (.ref 6), kn P "__builtins__" 171 (.ref 4), kn P "__file__" 173 (ks "/claim/cut.py" 172), kn P "__cached__" 174 .none, kn P "MendError" 206 (.ref 24), kn P "NoSigns" 222 (.ref 37), kn P "NoKey" 238 (.ref 49), kn P "NoSize" 254 (.ref 61), kn P "NoLetter" 270 (.ref 73), kn P "Beyond" 286 (.ref 85), kn P "NoCards" 302 (.ref 97), kn P "NoLines" 318 (.ref 109), kn P "MOST_SIGNS" 322 (.int 2000 321), kn P "BLANK" 324 (.int 32 323), kn P "PERCENT" 326 (.int 37 325), kn P "TILDE" 328 (.int 126 327), kn P "MOST_FEW" 330 (.int 999 329), kn P "MOST_TIMES" 332 (.int 999 331), kn P "MOST_MANY" 334 (.int 99999 333), kn P "MOST_SIZE" 336 (.int 200 335), kn P "is_whole" 343 (.ref 118), kn P "is_from" 351 (.ref 125), kn P "is_within" 360 (.ref 132), kn P "is_sign" 368 (.ref 139), kn P "is_text" 374 (.ref 144), kn P "is_key" 381 (.ref 151), kn P "check_text" 388 (.ref 158), kn P "check_key" 395 (.ref 165), kn P "check_size" 402 (.ref 172), kn P "MOST_PIECES" 406 (.int 2000 405), kn P "checked" 413 (.ref 179), kn P "mended" 419 (.ref 184), kn P "cost" 425 (.ref 189), kn P "plain" 432 (.ref 196), kn P "behind" 443 (.ref 203), kn P "check_letter" 450 (.ref 210), kn P "is_letter" 456 (.ref 215), kn P "is_piece" 463 (.ref 222), kn P "is_copy" 470 (.ref 229), kn P "made_by_piece" 479 (.ref 236), kn P "piece_cost" 486 (.ref 243), kn P "piece_length" 493 (.ref 250), kn P "joined" 503 (.ref 257), kn P "add_signs" 511 (.ref 264), kn P "add_copy" 519 (.ref 271), kn P "goes_on" 527 (.ref 278), kn P "piece_ends" 537 (.ref 285), kn P "stretch_pieces" 552 (.ref 292), kn P "piece_at" 563 (.ref 299), kn P "trimmed" 572 (.ref 306), kn P "first_sum" 586 (.ref 313), kn P "rolled" 600 (.ref 320), kn P "rolled_sums" 612 (.ref 327), kn P "second_sum" 620 (.ref 334), kn P "whole_sum" 628 (.ref 341), kn P "chained" 639 (.ref 348), kn P "cards" 647 (.ref 353), kn P "found_by" 664 (.ref 360), kn P "card_of" 672 (.ref 367), kn P "check_cards" 678 (.ref 372), kn P "is_card" 686 (.ref 379), kn P "earliest_blocks" 697 (.ref 386), kn P "fitting_block" 707 (.ref 393), kn P "cut_places" 715 (.ref 398), kn P "stretches" 728 (.ref 405), kn P "found_by_cuts" 734 (.ref 410), kn P "first_places" 744 (.ref 417), kn P "piece_for" 752 (.ref 424), kn P "least" 762 (.ref 431), kn P "back" 770 (.ref 438), kn P "least_between" 781 (.ref 445), kn P "longest_copy" 793 (.ref 452), kn P "alike" 805 (.ref 459), kn P "shown" 813 (.ref 464), kn P "line_of" 820 (.ref 471), kn P "written" 829 (.ref 478), kn P "talk" 843 (.ref 485), kn P "all_signs" 850 (.ref 492), kn P "_law_cell_at" 860 (.ref 499), kn P "_law_mixed" 870 (.ref 506), kn P "_law_with_key" 880 (.ref 513), kn P "_law_with_size" 890 (.ref 520), kn P "_law_with_text" 900 (.ref 527), kn P "_law_with_letter" 908 (.ref 534), kn P "_law_bad" 920 (.ref 541), kn P "_law_case" 932 (.ref 548), kn P "law" 942 (.ref 555)] 92 }
noncomputable def kb15 (_ : Params) : Obj := { cls := .type "tuple", data := Data.seq #[.type "ValueError"] }
noncomputable def kb22 (_ : Params) : Obj := k0
noncomputable def kb23 (P : Params) : Obj := { cls := .type "dict", data := Data.dict #[kn P "__module__" 196 (ks "rollmend.errors" 187), kn P "__firstlineno__" 200 (.int 2 199), kn P "__static_attributes__" 201 (.ref 22), kn P "__weakref__" 203 (.ref 25), kn P "__doc__" 204 .none] 3 }
noncomputable def kb24 (_ : Params) : Obj := { cls := .type "type", data := Data.cls { name := Str.ofString "MendError", bases := [.type "ValueError"], mro := [.ref 24, .type "ValueError", .type "Exception", .type "BaseException", .type "object"], ns := 23, qualname := Str.ofString "MendError", subclasses := [.ref 37, .ref 49, .ref 61, .ref 73, .ref 85, .ref 97, .ref 109] }, slots := #[some (.ref 15), none, some (ks "MendError" 189), some (ks "MendError" 197), some (.builtin "ValueError.__new__"), some (.bool true)] }
noncomputable def kb25 (_ : Params) : Obj := { cls := .type "getset_descriptor", data := Data.fields #[ks "__weakref__" 202, .ref 24, .builtin "ExceptionGroup.__weakref__", .none] }
noncomputable def kb28 (_ : Params) : Obj := { cls := .type "tuple", data := Data.seq #[.ref 24] }
noncomputable def kb35 (_ : Params) : Obj := k0
noncomputable def kb36 (P : Params) : Obj := { cls := .type "dict", data := Data.dict #[kn P "__module__" 214 (ks "rollmend.errors" 187), kn P "__firstlineno__" 218 (.int 4 217), kn P "__static_attributes__" 219 (.ref 35), kn P "__doc__" 220 .none] 2 }
noncomputable def kb37 (_ : Params) : Obj := { cls := .type "type", data := Data.cls { name := Str.ofString "NoSigns", bases := [.ref 24], mro := [.ref 37, .ref 24, .type "ValueError", .type "Exception", .type "BaseException", .type "object"], ns := 36, qualname := Str.ofString "NoSigns" }, slots := #[some (.ref 28), none, some (ks "NoSigns" 207), some (ks "NoSigns" 215), some (.builtin "ValueError.__new__"), some (.bool true)] }
noncomputable def kb40 (_ : Params) : Obj := { cls := .type "tuple", data := Data.seq #[.ref 24] }
noncomputable def kb47 (_ : Params) : Obj := k0
noncomputable def kb48 (P : Params) : Obj := { cls := .type "dict", data := Data.dict #[kn P "__module__" 230 (ks "rollmend.errors" 187), kn P "__firstlineno__" 234 (.int 6 233), kn P "__static_attributes__" 235 (.ref 47), kn P "__doc__" 236 .none] 2 }
noncomputable def kb49 (_ : Params) : Obj := { cls := .type "type", data := Data.cls { name := Str.ofString "NoKey", bases := [.ref 24], mro := [.ref 49, .ref 24, .type "ValueError", .type "Exception", .type "BaseException", .type "object"], ns := 48, qualname := Str.ofString "NoKey" }, slots := #[some (.ref 40), none, some (ks "NoKey" 223), some (ks "NoKey" 231), some (.builtin "ValueError.__new__"), some (.bool true)] }
noncomputable def kb52 (_ : Params) : Obj := { cls := .type "tuple", data := Data.seq #[.ref 24] }
noncomputable def kb59 (_ : Params) : Obj := k0
noncomputable def kb60 (P : Params) : Obj := { cls := .type "dict", data := Data.dict #[kn P "__module__" 246 (ks "rollmend.errors" 187), kn P "__firstlineno__" 250 (.int 8 249), kn P "__static_attributes__" 251 (.ref 59), kn P "__doc__" 252 .none] 2 }
noncomputable def kb61 (_ : Params) : Obj := { cls := .type "type", data := Data.cls { name := Str.ofString "NoSize", bases := [.ref 24], mro := [.ref 61, .ref 24, .type "ValueError", .type "Exception", .type "BaseException", .type "object"], ns := 60, qualname := Str.ofString "NoSize" }, slots := #[some (.ref 52), none, some (ks "NoSize" 239), some (ks "NoSize" 247), some (.builtin "ValueError.__new__"), some (.bool true)] }
noncomputable def kb64 (_ : Params) : Obj := { cls := .type "tuple", data := Data.seq #[.ref 24] }
noncomputable def kb71 (_ : Params) : Obj := k0
noncomputable def kb72 (P : Params) : Obj := { cls := .type "dict", data := Data.dict #[kn P "__module__" 262 (ks "rollmend.errors" 187), kn P "__firstlineno__" 266 (.int 10 265), kn P "__static_attributes__" 267 (.ref 71), kn P "__doc__" 268 .none] 2 }
noncomputable def kb73 (_ : Params) : Obj := { cls := .type "type", data := Data.cls { name := Str.ofString "NoLetter", bases := [.ref 24], mro := [.ref 73, .ref 24, .type "ValueError", .type "Exception", .type "BaseException", .type "object"], ns := 72, qualname := Str.ofString "NoLetter" }, slots := #[some (.ref 64), none, some (ks "NoLetter" 255), some (ks "NoLetter" 263), some (.builtin "ValueError.__new__"), some (.bool true)] }
noncomputable def kb76 (_ : Params) : Obj := { cls := .type "tuple", data := Data.seq #[.ref 24] }
noncomputable def kb83 (_ : Params) : Obj := k0
noncomputable def kb84 (P : Params) : Obj := { cls := .type "dict", data := Data.dict #[kn P "__module__" 278 (ks "rollmend.errors" 187), kn P "__firstlineno__" 282 (.int 12 281), kn P "__static_attributes__" 283 (.ref 83), kn P "__doc__" 284 .none] 2 }
noncomputable def kb85 (_ : Params) : Obj := { cls := .type "type", data := Data.cls { name := Str.ofString "Beyond", bases := [.ref 24], mro := [.ref 85, .ref 24, .type "ValueError", .type "Exception", .type "BaseException", .type "object"], ns := 84, qualname := Str.ofString "Beyond" }, slots := #[some (.ref 76), none, some (ks "Beyond" 271), some (ks "Beyond" 279), some (.builtin "ValueError.__new__"), some (.bool true)] }
noncomputable def kb88 (_ : Params) : Obj := { cls := .type "tuple", data := Data.seq #[.ref 24] }
noncomputable def kb95 (_ : Params) : Obj := k0
noncomputable def kb96 (P : Params) : Obj := { cls := .type "dict", data := Data.dict #[kn P "__module__" 294 (ks "rollmend.errors" 187), kn P "__firstlineno__" 298 (.int 14 297), kn P "__static_attributes__" 299 (.ref 95), kn P "__doc__" 300 .none] 2 }
noncomputable def kb97 (_ : Params) : Obj := { cls := .type "type", data := Data.cls { name := Str.ofString "NoCards", bases := [.ref 24], mro := [.ref 97, .ref 24, .type "ValueError", .type "Exception", .type "BaseException", .type "object"], ns := 96, qualname := Str.ofString "NoCards" }, slots := #[some (.ref 88), none, some (ks "NoCards" 287), some (ks "NoCards" 295), some (.builtin "ValueError.__new__"), some (.bool true)] }
noncomputable def kb100 (_ : Params) : Obj := { cls := .type "tuple", data := Data.seq #[.ref 24] }
noncomputable def kb107 (_ : Params) : Obj := k0
noncomputable def kb108 (P : Params) : Obj := { cls := .type "dict", data := Data.dict #[kn P "__module__" 310 (ks "rollmend.errors" 187), kn P "__firstlineno__" 314 (.int 16 313), kn P "__static_attributes__" 315 (.ref 107), kn P "__doc__" 316 .none] 2 }
noncomputable def kb109 (_ : Params) : Obj := { cls := .type "type", data := Data.cls { name := Str.ofString "NoLines", bases := [.ref 24], mro := [.ref 109, .ref 24, .type "ValueError", .type "Exception", .type "BaseException", .type "object"], ns := 108, qualname := Str.ofString "NoLines" }, slots := #[some (.ref 100), none, some (ks "NoLines" 303), some (ks "NoLines" 311), some (.builtin "ValueError.__new__"), some (.bool true)] }
noncomputable def kb112 (_ : Params) : Obj := k0
noncomputable def kb114 (_ : Params) : Obj := { cls := .type "tuple", data := Data.seq #[ks "thing" 340] }
noncomputable def kb115 (_ : Params) : Obj := k0
noncomputable def kb117 (_ : Params) : Obj := kc "is_whole" 337 27 1 112 (.ref 114) (.ref 115) 116 341 342
noncomputable def kb118 (_ : Params) : Obj := ko "is_whole" 18 "rollmend.checks" 319 117
noncomputable def kb119 (_ : Params) : Obj := k0
noncomputable def kb121 (_ : Params) : Obj := { cls := .type "tuple", data := Data.seq #[ks "thing" 347, ks "lowest" 348] }
noncomputable def kb122 (_ : Params) : Obj := k0
noncomputable def kb124 (_ : Params) : Obj := kc "is_from" 344 29 2 119 (.ref 121) (.ref 122) 123 349 350
noncomputable def kb125 (_ : Params) : Obj := ko "is_from" 19 "rollmend.checks" 319 124
noncomputable def kb126 (_ : Params) : Obj := k0
noncomputable def kb128 (_ : Params) : Obj := { cls := .type "tuple", data := Data.seq #[ks "thing" 355, ks "lowest" 356, ks "highest" 357] }
noncomputable def kb129 (_ : Params) : Obj := k0
noncomputable def kb131 (_ : Params) : Obj := kc "is_within" 352 31 3 126 (.ref 128) (.ref 129) 130 358 359
noncomputable def kb132 (_ : Params) : Obj := ko "is_within" 20 "rollmend.checks" 319 131
noncomputable def kb133 (_ : Params) : Obj := k0
noncomputable def kb135 (_ : Params) : Obj := { cls := .type "tuple", data := Data.seq #[ks "sign" 364, ks "worth" 365] }
noncomputable def kb136 (_ : Params) : Obj := k0
noncomputable def kb138 (_ : Params) : Obj := kc "is_sign" 361 33 1 133 (.ref 135) (.ref 136) 137 366 367
noncomputable def kb139 (_ : Params) : Obj := ko "is_sign" 21 "rollmend.checks" 319 138
noncomputable def kb140 (_ : Params) : Obj := k0
noncomputable def kb143 (_ : Params) : Obj := kc "is_text" 369 36 1 140 .none .none 142 372 373
noncomputable def kb144 (_ : Params) : Obj := ko "is_text" 22 "rollmend.checks" 319 143
noncomputable def kb145 (_ : Params) : Obj := k0
noncomputable def kb147 (_ : Params) : Obj := { cls := .type "tuple", data := Data.seq #[ks "thing" 378] }
noncomputable def kb148 (_ : Params) : Obj := k0
noncomputable def kb150 (_ : Params) : Obj := kc "is_key" 375 40 1 145 (.ref 147) (.ref 148) 149 379 380
noncomputable def kb151 (_ : Params) : Obj := ko "is_key" 23 "rollmend.checks" 319 150
noncomputable def kb152 (_ : Params) : Obj := k0
noncomputable def kb154 (_ : Params) : Obj := { cls := .type "tuple", data := Data.seq #[ks "thing" 385] }
noncomputable def kb155 (_ : Params) : Obj := k0
noncomputable def kb157 (_ : Params) : Obj := kc "check_text" 382 46 1 152 (.ref 154) (.ref 155) 156 386 387
noncomputable def kb158 (_ : Params) : Obj := ko "check_text" 24 "rollmend.checks" 319 157
noncomputable def kb159 (_ : Params) : Obj := k0
noncomputable def kb161 (_ : Params) : Obj := { cls := .type "tuple", data := Data.seq #[ks "thing" 392] }
noncomputable def kb162 (_ : Params) : Obj := k0
noncomputable def kb164 (_ : Params) : Obj := kc "check_key" 389 49 1 159 (.ref 161) (.ref 162) 163 393 394
noncomputable def kb165 (_ : Params) : Obj := ko "check_key" 25 "rollmend.checks" 319 164
noncomputable def kb166 (_ : Params) : Obj := k0
noncomputable def kb168 (_ : Params) : Obj := { cls := .type "tuple", data := Data.seq #[ks "thing" 399] }
noncomputable def kb169 (_ : Params) : Obj := k0
noncomputable def kb171 (_ : Params) : Obj := kc "check_size" 396 52 1 166 (.ref 168) (.ref 169) 170 400 401
noncomputable def kb172 (_ : Params) : Obj := ko "check_size" 26 "rollmend.checks" 319 171
noncomputable def kb173 (_ : Params) : Obj := k0
noncomputable def kb175 (_ : Params) : Obj := { cls := .type "tuple", data := Data.seq #[ks "letter" 410] }
noncomputable def kb176 (_ : Params) : Obj := k0
noncomputable def kb178 (_ : Params) : Obj := kc "checked" 407 57 1 173 (.ref 175) (.ref 176) 177 411 412
noncomputable def kb179 (_ : Params) : Obj := ko "checked" 29 "rollmend.letters" 403 178
noncomputable def kb180 (_ : Params) : Obj := k0
noncomputable def kb183 (_ : Params) : Obj := kc "mended" 414 60 2 180 .none .none 182 417 418
noncomputable def kb184 (_ : Params) : Obj := ko "mended" 30 "rollmend.letters" 403 183
noncomputable def kb185 (_ : Params) : Obj := k0
noncomputable def kb188 (_ : Params) : Obj := kc "cost" 420 64 1 185 .none .none 187 423 424
noncomputable def kb189 (_ : Params) : Obj := ko "cost" 31 "rollmend.letters" 403 188
noncomputable def kb190 (_ : Params) : Obj := k0
noncomputable def kb192 (_ : Params) : Obj := { cls := .type "tuple", data := Data.seq #[ks "letter" 429] }
noncomputable def kb193 (_ : Params) : Obj := k0
noncomputable def kb195 (_ : Params) : Obj := kc "plain" 426 67 1 190 (.ref 192) (.ref 193) 194 430 431
noncomputable def kb196 (_ : Params) : Obj := ko "plain" 32 "rollmend.letters" 403 195
noncomputable def kb197 (_ : Params) : Obj := k0
noncomputable def kb199 (_ : Params) : Obj := { cls := .type "tuple", data := Data.seq #[ks "one" 436, ks "other" 437, ks "ends" 438, ks "pieces" 439, ks "piece" 440] }
noncomputable def kb200 (_ : Params) : Obj := k0
noncomputable def kb202 (_ : Params) : Obj := kc "behind" 433 70 2 197 (.ref 199) (.ref 200) 201 441 442
noncomputable def kb203 (_ : Params) : Obj := ko "behind" 33 "rollmend.letters" 403 202
noncomputable def kb204 (_ : Params) : Obj := k0
noncomputable def kb206 (_ : Params) : Obj := { cls := .type "tuple", data := Data.seq #[ks "thing" 447] }
noncomputable def kb207 (_ : Params) : Obj := k0
noncomputable def kb209 (_ : Params) : Obj := kc "check_letter" 444 81 1 204 (.ref 206) (.ref 207) 208 448 449
noncomputable def kb210 (_ : Params) : Obj := ko "check_letter" 34 "rollmend.letters" 403 209
noncomputable def kb211 (_ : Params) : Obj := k0
noncomputable def kb214 (_ : Params) : Obj := kc "is_letter" 451 84 1 211 .none .none 213 454 455
noncomputable def kb215 (_ : Params) : Obj := ko "is_letter" 35 "rollmend.letters" 403 214
noncomputable def kb216 (_ : Params) : Obj := k0
noncomputable def kb218 (_ : Params) : Obj := { cls := .type "tuple", data := Data.seq #[ks "thing" 460] }
noncomputable def kb219 (_ : Params) : Obj := k0
noncomputable def kb221 (_ : Params) : Obj := kc "is_piece" 457 88 1 216 (.ref 218) (.ref 219) 220 461 462
noncomputable def kb222 (_ : Params) : Obj := ko "is_piece" 36 "rollmend.letters" 403 221
noncomputable def kb223 (_ : Params) : Obj := k0
noncomputable def kb225 (_ : Params) : Obj := { cls := .type "tuple", data := Data.seq #[ks "piece" 467] }
noncomputable def kb226 (_ : Params) : Obj := k0
noncomputable def kb228 (_ : Params) : Obj := kc "is_copy" 464 96 1 223 (.ref 225) (.ref 226) 227 468 469
noncomputable def kb229 (_ : Params) : Obj := ko "is_copy" 37 "rollmend.letters" 403 228
noncomputable def kb230 (_ : Params) : Obj := k0
noncomputable def kb232 (_ : Params) : Obj := { cls := .type "tuple", data := Data.seq #[ks "elder" 474, ks "piece" 475, ks "end" 476] }
noncomputable def kb233 (_ : Params) : Obj := k0
noncomputable def kb235 (_ : Params) : Obj := kc "made_by_piece" 471 98 2 230 (.ref 232) (.ref 233) 234 477 478
noncomputable def kb236 (_ : Params) : Obj := ko "made_by_piece" 38 "rollmend.letters" 403 235
noncomputable def kb237 (_ : Params) : Obj := k0
noncomputable def kb239 (_ : Params) : Obj := { cls := .type "tuple", data := Data.seq #[ks "piece" 483] }
noncomputable def kb240 (_ : Params) : Obj := k0
noncomputable def kb242 (_ : Params) : Obj := kc "piece_cost" 480 105 1 237 (.ref 239) (.ref 240) 241 484 485
noncomputable def kb243 (_ : Params) : Obj := ko "piece_cost" 39 "rollmend.letters" 403 242
noncomputable def kb244 (_ : Params) : Obj := k0
noncomputable def kb246 (_ : Params) : Obj := { cls := .type "tuple", data := Data.seq #[ks "piece" 490] }
noncomputable def kb247 (_ : Params) : Obj := k0
noncomputable def kb249 (_ : Params) : Obj := kc "piece_length" 487 107 1 244 (.ref 246) (.ref 247) 248 491 492
noncomputable def kb250 (_ : Params) : Obj := ko "piece_length" 40 "rollmend.letters" 403 249
noncomputable def kb251 (_ : Params) : Obj := k0
noncomputable def kb253 (_ : Params) : Obj := { cls := .type "tuple", data := Data.seq #[ks "pieces" 497, ks "letter" 498, ks "texts" 499, ks "piece" 500] }
noncomputable def kb254 (_ : Params) : Obj := k0
noncomputable def kb256 (_ : Params) : Obj := kc "joined" 494 109 1 251 (.ref 253) (.ref 254) 255 501 502
noncomputable def kb257 (_ : Params) : Obj := ko "joined" 41 "rollmend.letters" 403 256
noncomputable def kb258 (_ : Params) : Obj := k0
noncomputable def kb260 (_ : Params) : Obj := { cls := .type "tuple", data := Data.seq #[ks "letter" 507, ks "texts" 508] }
noncomputable def kb261 (_ : Params) : Obj := k0
noncomputable def kb263 (_ : Params) : Obj := kc "add_signs" 504 121 2 258 (.ref 260) (.ref 261) 262 509 510
noncomputable def kb264 (_ : Params) : Obj := ko "add_signs" 42 "rollmend.letters" 403 263
noncomputable def kb265 (_ : Params) : Obj := k0
noncomputable def kb267 (_ : Params) : Obj := { cls := .type "tuple", data := Data.seq #[ks "letter" 515, ks "piece" 516] }
noncomputable def kb268 (_ : Params) : Obj := k0
noncomputable def kb270 (_ : Params) : Obj := kc "add_copy" 512 124 2 265 (.ref 267) (.ref 268) 269 517 518
noncomputable def kb271 (_ : Params) : Obj := ko "add_copy" 43 "rollmend.letters" 403 270
noncomputable def kb272 (_ : Params) : Obj := k0
noncomputable def kb274 (_ : Params) : Obj := { cls := .type "tuple", data := Data.seq #[ks "piece" 523, ks "later" 524] }
noncomputable def kb275 (_ : Params) : Obj := k0
noncomputable def kb277 (_ : Params) : Obj := kc "goes_on" 520 129 2 272 (.ref 274) (.ref 275) 276 525 526
noncomputable def kb278 (_ : Params) : Obj := ko "goes_on" 44 "rollmend.letters" 403 277
noncomputable def kb279 (_ : Params) : Obj := k0
noncomputable def kb281 (_ : Params) : Obj := { cls := .type "tuple", data := Data.seq #[ks "letter" 531, ks "ends" 532, ks "end" 533, ks "piece" 534] }
noncomputable def kb282 (_ : Params) : Obj := k0
noncomputable def kb284 (_ : Params) : Obj := kc "piece_ends" 528 131 1 279 (.ref 281) (.ref 282) 283 535 536
noncomputable def kb285 (_ : Params) : Obj := ko "piece_ends" 45 "rollmend.letters" 403 284
noncomputable def kb286 (_ : Params) : Obj := k0
noncomputable def kb288 (_ : Params) : Obj := { cls := .type "tuple", data := Data.seq #[ks "letter" 541, ks "ends" 542, ks "place" 543, ks "many" 544, ks "end" 545, ks "first" 546, ks "last" 547, ks "pieces" 548, ks "begin" 549] }
noncomputable def kb289 (_ : Params) : Obj := k0
noncomputable def kb291 (_ : Params) : Obj := kc "stretch_pieces" 538 138 4 286 (.ref 288) (.ref 289) 290 550 551
noncomputable def kb292 (_ : Params) : Obj := ko "stretch_pieces" 46 "rollmend.letters" 403 291
noncomputable def kb293 (_ : Params) : Obj := k0
noncomputable def kb295 (_ : Params) : Obj := { cls := .type "tuple", data := Data.seq #[ks "ends" 556, ks "place" 557, ks "low" 558, ks "high" 559, ks "middle" 560] }
noncomputable def kb296 (_ : Params) : Obj := k0
noncomputable def kb298 (_ : Params) : Obj := kc "piece_at" 553 149 2 293 (.ref 295) (.ref 296) 297 561 562
noncomputable def kb299 (_ : Params) : Obj := ko "piece_at" 47 "rollmend.letters" 403 298
noncomputable def kb300 (_ : Params) : Obj := k0
noncomputable def kb302 (_ : Params) : Obj := { cls := .type "tuple", data := Data.seq #[ks "piece" 567, ks "head" 568, ks "tail" 569] }
noncomputable def kb303 (_ : Params) : Obj := k0
noncomputable def kb305 (_ : Params) : Obj := kc "trimmed" 564 159 3 300 (.ref 302) (.ref 303) 304 570 571
noncomputable def kb306 (_ : Params) : Obj := ko "trimmed" 48 "rollmend.letters" 403 305
noncomputable def kb307 (_ : Params) : Obj := k0
noncomputable def kb309 (_ : Params) : Obj := { cls := .type "tuple", data := Data.seq #[ks "key" 578, ks "text" 579, ks "few" 580, ks "plain" 581, ks "leaning" 582, ks "sign" 583] }
noncomputable def kb310 (_ : Params) : Obj := k0
noncomputable def kb312 (_ : Params) : Obj := kc "first_sum" 575 164 2 307 (.ref 309) (.ref 310) 311 584 585
noncomputable def kb313 (_ : Params) : Obj := ko "first_sum" 50 "rollmend.sums" 573 312
noncomputable def kb314 (_ : Params) : Obj := k0
noncomputable def kb316 (_ : Params) : Obj := { cls := .type "tuple", data := Data.seq #[ks "key" 590, ks "found" 591, ks "many" 592, ks "gone" 593, ks "come" 594, ks "few" 595, ks "plain" 596, ks "leaning" 597] }
noncomputable def kb317 (_ : Params) : Obj := k0
noncomputable def kb319 (_ : Params) : Obj := kc "rolled" 587 174 5 314 (.ref 316) (.ref 317) 318 598 599
noncomputable def kb320 (_ : Params) : Obj := ko "rolled" 51 "rollmend.sums" 573 319
noncomputable def kb321 (_ : Params) : Obj := k0
noncomputable def kb323 (_ : Params) : Obj := { cls := .type "tuple", data := Data.seq #[ks "key" 604, ks "size" 605, ks "text" 606, ks "found" 607, ks "firsts" 608, ks "place" 609] }
noncomputable def kb324 (_ : Params) : Obj := k0
noncomputable def kb326 (_ : Params) : Obj := kc "rolled_sums" 601 180 3 321 (.ref 323) (.ref 324) 325 610 611
noncomputable def kb327 (_ : Params) : Obj := ko "rolled_sums" 52 "rollmend.sums" 573 326
noncomputable def kb328 (_ : Params) : Obj := k0
noncomputable def kb330 (_ : Params) : Obj := { cls := .type "tuple", data := Data.seq #[ks "key" 616, ks "text" 617] }
noncomputable def kb331 (_ : Params) : Obj := k0
noncomputable def kb333 (_ : Params) : Obj := kc "second_sum" 613 189 2 328 (.ref 330) (.ref 331) 332 618 619
noncomputable def kb334 (_ : Params) : Obj := ko "second_sum" 53 "rollmend.sums" 573 333
noncomputable def kb335 (_ : Params) : Obj := k0
noncomputable def kb337 (_ : Params) : Obj := { cls := .type "tuple", data := Data.seq #[ks "key" 624, ks "text" 625] }
noncomputable def kb338 (_ : Params) : Obj := k0
noncomputable def kb340 (_ : Params) : Obj := kc "whole_sum" 621 193 2 335 (.ref 337) (.ref 338) 339 626 627
noncomputable def kb341 (_ : Params) : Obj := ko "whole_sum" 54 "rollmend.sums" 573 340
noncomputable def kb342 (_ : Params) : Obj := k0
noncomputable def kb344 (_ : Params) : Obj := { cls := .type "tuple", data := Data.seq #[ks "times" 632, ks "many" 633, ks "text" 634, ks "number" 635, ks "sign" 636] }
noncomputable def kb345 (_ : Params) : Obj := k0
noncomputable def kb347 (_ : Params) : Obj := kc "chained" 629 197 3 342 (.ref 344) (.ref 345) 346 637 638
noncomputable def kb348 (_ : Params) : Obj := ko "chained" 55 "rollmend.sums" 573 347
noncomputable def kb349 (_ : Params) : Obj := k0
noncomputable def kb352 (_ : Params) : Obj := kc "cards" 642 203 3 349 .none .none 351 645 646
noncomputable def kb353 (_ : Params) : Obj := ko "cards" 57 "rollmend.cards" 640 352
noncomputable def kb354 (_ : Params) : Obj := k0
noncomputable def kb356 (_ : Params) : Obj := { cls := .type "tuple", data := Data.seq #[ks "key" 651, ks "size" 652, ks "told" 653, ks "newer" 654, ks "firsts" 655, ks "earliest" 656, ks "pieces" 657, ks "place" 658, ks "awaited" 659, ks "block" 660, ks "card" 661] }
noncomputable def kb357 (_ : Params) : Obj := k0
noncomputable def kb359 (_ : Params) : Obj := kc "found_by" 648 208 4 354 (.ref 356) (.ref 357) 358 662 663
noncomputable def kb360 (_ : Params) : Obj := ko "found_by" 58 "rollmend.cards" 640 359
noncomputable def kb361 (_ : Params) : Obj := k0
noncomputable def kb363 (_ : Params) : Obj := { cls := .type "tuple", data := Data.seq #[ks "key" 668, ks "block" 669] }
noncomputable def kb364 (_ : Params) : Obj := k0
noncomputable def kb366 (_ : Params) : Obj := kc "card_of" 665 232 2 361 (.ref 363) (.ref 364) 365 670 671
noncomputable def kb367 (_ : Params) : Obj := ko "card_of" 59 "rollmend.cards" 640 366
noncomputable def kb368 (_ : Params) : Obj := k0
noncomputable def kb371 (_ : Params) : Obj := kc "check_cards" 673 234 1 368 .none .none 370 676 677
noncomputable def kb372 (_ : Params) : Obj := ko "check_cards" 60 "rollmend.cards" 640 371
noncomputable def kb373 (_ : Params) : Obj := k0
noncomputable def kb375 (_ : Params) : Obj := { cls := .type "tuple", data := Data.seq #[ks "thing" 682, ks "first" 683] }
noncomputable def kb376 (_ : Params) : Obj := k0
noncomputable def kb378 (_ : Params) : Obj := kc "is_card" 679 237 1 373 (.ref 375) (.ref 376) 377 684 685
noncomputable def kb379 (_ : Params) : Obj := ko "is_card" 61 "rollmend.cards" 640 378
noncomputable def kb380 (_ : Params) : Obj := k0
noncomputable def kb382 (_ : Params) : Obj := { cls := .type "tuple", data := Data.seq #[ks "told" 690, ks "earliest" 691, ks "block" 692, ks "card" 693, ks "seconds" 694] }
noncomputable def kb383 (_ : Params) : Obj := k0
noncomputable def kb385 (_ : Params) : Obj := kc "earliest_blocks" 687 244 1 380 (.ref 382) (.ref 383) 384 695 696
noncomputable def kb386 (_ : Params) : Obj := ko "earliest_blocks" 62 "rollmend.cards" 640 385
noncomputable def kb387 (_ : Params) : Obj := k0
noncomputable def kb389 (_ : Params) : Obj := { cls := .type "tuple", data := Data.seq #[ks "told" 701, ks "earliest" 702, ks "awaited" 703, ks "card" 704] }
noncomputable def kb390 (_ : Params) : Obj := k0
noncomputable def kb392 (_ : Params) : Obj := kc "fitting_block" 698 250 4 387 (.ref 389) (.ref 390) 391 705 706
noncomputable def kb393 (_ : Params) : Obj := ko "fitting_block" 63 "rollmend.cards" 640 392
noncomputable def kb394 (_ : Params) : Obj := k0
noncomputable def kb397 (_ : Params) : Obj := kc "cut_places" 710 255 4 394 .none .none 396 713 714
noncomputable def kb398 (_ : Params) : Obj := ko "cut_places" 65 "rollmend.cuts" 708 397
noncomputable def kb399 (_ : Params) : Obj := k0
noncomputable def kb401 (_ : Params) : Obj := { cls := .type "tuple", data := Data.seq #[ks "key" 719, ks "window" 720, ks "part" 721, ks "text" 722, ks "found" 723, ks "begin" 724, ks "end" 725] }
noncomputable def kb402 (_ : Params) : Obj := k0
noncomputable def kb404 (_ : Params) : Obj := kc "stretches" 716 262 4 399 (.ref 401) (.ref 402) 403 726 727
noncomputable def kb405 (_ : Params) : Obj := ko "stretches" 66 "rollmend.cuts" 708 404
noncomputable def kb406 (_ : Params) : Obj := k0
noncomputable def kb409 (_ : Params) : Obj := kc "found_by_cuts" 729 271 5 406 .none .none 408 732 733
noncomputable def kb410 (_ : Params) : Obj := ko "found_by_cuts" 67 "rollmend.cuts" 708 409
noncomputable def kb411 (_ : Params) : Obj := k0
noncomputable def kb413 (_ : Params) : Obj := { cls := .type "tuple", data := Data.seq #[ks "texts" 738, ks "places" 739, ks "place" 740, ks "text" 741] }
noncomputable def kb414 (_ : Params) : Obj := k0
noncomputable def kb416 (_ : Params) : Obj := kc "first_places" 735 274 1 411 (.ref 413) (.ref 414) 415 742 743
noncomputable def kb417 (_ : Params) : Obj := ko "first_places" 68 "rollmend.cuts" 708 416
noncomputable def kb418 (_ : Params) : Obj := k0
noncomputable def kb420 (_ : Params) : Obj := { cls := .type "tuple", data := Data.seq #[ks "places" 748, ks "stretch" 749] }
noncomputable def kb421 (_ : Params) : Obj := k0
noncomputable def kb423 (_ : Params) : Obj := kc "piece_for" 745 281 2 418 (.ref 420) (.ref 421) 422 750 751
noncomputable def kb424 (_ : Params) : Obj := ko "piece_for" 69 "rollmend.cuts" 708 423
noncomputable def kb425 (_ : Params) : Obj := k0
noncomputable def kb427 (_ : Params) : Obj := { cls := .type "tuple", data := Data.seq #[ks "elder" 758, ks "newer" 759] }
noncomputable def kb428 (_ : Params) : Obj := k0
noncomputable def kb430 (_ : Params) : Obj := kc "least" 755 286 2 425 (.ref 427) (.ref 428) 429 760 761
noncomputable def kb431 (_ : Params) : Obj := ko "least" 71 "rollmend.leasts" 753 430
noncomputable def kb432 (_ : Params) : Obj := k0
noncomputable def kb434 (_ : Params) : Obj := { cls := .type "tuple", data := Data.seq #[ks "elder" 766, ks "letter" 767] }
noncomputable def kb435 (_ : Params) : Obj := k0
noncomputable def kb437 (_ : Params) : Obj := kc "back" 763 290 2 432 (.ref 434) (.ref 435) 436 768 769
noncomputable def kb438 (_ : Params) : Obj := ko "back" 72 "rollmend.leasts" 753 437
noncomputable def kb439 (_ : Params) : Obj := k0
noncomputable def kb441 (_ : Params) : Obj := { cls := .type "tuple", data := Data.seq #[ks "elder" 774, ks "newer" 775, ks "pieces" 776, ks "place" 777, ks "piece" 778] }
noncomputable def kb442 (_ : Params) : Obj := k0
noncomputable def kb444 (_ : Params) : Obj := kc "least_between" 771 292 2 439 (.ref 441) (.ref 442) 443 779 780
noncomputable def kb445 (_ : Params) : Obj := ko "least_between" 73 "rollmend.leasts" 753 444
noncomputable def kb446 (_ : Params) : Obj := k0
noncomputable def kb448 (_ : Params) : Obj := { cls := .type "tuple", data := Data.seq #[ks "elder" 785, ks "newer" 786, ks "place" 787, ks "longest" 788, ks "many" 789, ks "begin" 790] }
noncomputable def kb449 (_ : Params) : Obj := k0
noncomputable def kb451 (_ : Params) : Obj := kc "longest_copy" 782 304 3 446 (.ref 448) (.ref 449) 450 791 792
noncomputable def kb452 (_ : Params) : Obj := ko "longest_copy" 74 "rollmend.leasts" 753 451
noncomputable def kb453 (_ : Params) : Obj := k0
noncomputable def kb455 (_ : Params) : Obj := { cls := .type "tuple", data := Data.seq #[ks "elder" 797, ks "begin" 798, ks "newer" 799, ks "place" 800, ks "many" 801, ks "most" 802] }
noncomputable def kb456 (_ : Params) : Obj := k0
noncomputable def kb458 (_ : Params) : Obj := kc "alike" 794 315 5 453 (.ref 455) (.ref 456) 457 803 804
noncomputable def kb459 (_ : Params) : Obj := ko "alike" 75 "rollmend.leasts" 753 458
noncomputable def kb460 (_ : Params) : Obj := k0
noncomputable def kb463 (_ : Params) : Obj := kc "shown" 808 321 1 460 .none .none 462 811 812
noncomputable def kb464 (_ : Params) : Obj := ko "shown" 77 "rollmend.lines" 806 463
noncomputable def kb465 (_ : Params) : Obj := k0
noncomputable def kb467 (_ : Params) : Obj := { cls := .type "tuple", data := Data.seq #[ks "piece" 817] }
noncomputable def kb468 (_ : Params) : Obj := k0
noncomputable def kb470 (_ : Params) : Obj := kc "line_of" 814 324 1 465 (.ref 467) (.ref 468) 469 818 819
noncomputable def kb471 (_ : Params) : Obj := ko "line_of" 78 "rollmend.lines" 806 470
noncomputable def kb472 (_ : Params) : Obj := k0
noncomputable def kb474 (_ : Params) : Obj := { cls := .type "tuple", data := Data.seq #[ks "number" 824, ks "parts" 825, ks "bound" 826] }
noncomputable def kb475 (_ : Params) : Obj := k0
noncomputable def kb477 (_ : Params) : Obj := kc "written" 821 328 1 472 (.ref 474) (.ref 475) 476 827 828
noncomputable def kb478 (_ : Params) : Obj := ko "written" 79 "rollmend.lines" 806 477
noncomputable def kb479 (_ : Params) : Obj := k0
noncomputable def kb481 (_ : Params) : Obj := { cls := .type "tuple", data := Data.seq #[ks "key" 835, ks "size" 836, ks "elder" 837, ks "newer" 838, ks "letter" 839, ks "made" 840] }
noncomputable def kb482 (_ : Params) : Obj := k0
noncomputable def kb484 (_ : Params) : Obj := kc "talk" 832 338 4 479 (.ref 481) (.ref 482) 483 841 842
noncomputable def kb485 (_ : Params) : Obj := ko "talk" 81 "rollmend.talks" 830 484
noncomputable def kb486 (_ : Params) : Obj := k0
noncomputable def kb488 (_ : Params) : Obj := { cls := .type "tuple", data := Data.seq #[ks "text" 847] }
noncomputable def kb489 (_ : Params) : Obj := k0
noncomputable def kb491 (_ : Params) : Obj := kc "all_signs" 844 344 1 486 (.ref 488) (.ref 489) 490 848 849
noncomputable def kb492 (_ : Params) : Obj := ko "all_signs" 82 "rollmend.talks" 830 491
noncomputable def kb493 (_ : Params) : Obj := k0
noncomputable def kb495 (_ : Params) : Obj := { cls := .type "tuple", data := Data.seq #[ks "_law_script" 856, ks "_law_k" 857] }
noncomputable def kb496 (_ : Params) : Obj := k0
noncomputable def kb498 (_ : Params) : Obj := kc "_law_cell_at" 853 347 2 493 (.ref 495) (.ref 496) 497 858 859
noncomputable def kb499 (_ : Params) : Obj := ko "_law_cell_at" 84 "law_rollmend_k18_refused" 851 498
noncomputable def kb500 (_ : Params) : Obj := k0
noncomputable def kb502 (_ : Params) : Obj := { cls := .type "tuple", data := Data.seq #[ks "_law_script" 864, ks "_law_k" 865, ks "_law_many" 866, ks "_law_drawn" 867] }
noncomputable def kb503 (_ : Params) : Obj := k0
noncomputable def kb505 (_ : Params) : Obj := kc "_law_mixed" 861 353 3 500 (.ref 502) (.ref 503) 504 868 869
noncomputable def kb506 (_ : Params) : Obj := ko "_law_mixed" 85 "law_rollmend_k18_refused" 851 505
noncomputable def kb507 (_ : Params) : Obj := k0
noncomputable def kb509 (_ : Params) : Obj := { cls := .type "tuple", data := Data.seq #[ks "_law_what" 874, ks "_law_bad_here" 875, ks "_law_size" 876, ks "_law_text" 877] }
noncomputable def kb510 (_ : Params) : Obj := k0
noncomputable def kb512 (_ : Params) : Obj := kc "_law_with_key" 871 356 4 507 (.ref 509) (.ref 510) 511 878 879
noncomputable def kb513 (_ : Params) : Obj := ko "_law_with_key" 86 "law_rollmend_k18_refused" 851 512
noncomputable def kb514 (_ : Params) : Obj := k0
noncomputable def kb516 (_ : Params) : Obj := { cls := .type "tuple", data := Data.seq #[ks "_law_what" 884, ks "_law_key" 885, ks "_law_bad_here" 886, ks "_law_text" 887] }
noncomputable def kb517 (_ : Params) : Obj := k0
noncomputable def kb519 (_ : Params) : Obj := kc "_law_with_size" 881 370 4 514 (.ref 516) (.ref 517) 518 888 889
noncomputable def kb520 (_ : Params) : Obj := ko "_law_with_size" 87 "law_rollmend_k18_refused" 851 519
noncomputable def kb521 (_ : Params) : Obj := k0
noncomputable def kb523 (_ : Params) : Obj := { cls := .type "tuple", data := Data.seq #[ks "_law_what" 894, ks "_law_key" 895, ks "_law_bad_here" 896, ks "_law_letter" 897] }
noncomputable def kb524 (_ : Params) : Obj := k0
noncomputable def kb526 (_ : Params) : Obj := kc "_law_with_text" 891 382 4 521 (.ref 523) (.ref 524) 525 898 899
noncomputable def kb527 (_ : Params) : Obj := ko "_law_with_text" 88 "law_rollmend_k18_refused" 851 526
noncomputable def kb528 (_ : Params) : Obj := k0
noncomputable def kb530 (_ : Params) : Obj := { cls := .type "tuple", data := Data.seq #[ks "_law_what" 904, ks "_law_bad_here" 905] }
noncomputable def kb531 (_ : Params) : Obj := k0
noncomputable def kb533 (_ : Params) : Obj := kc "_law_with_letter" 901 400 2 528 (.ref 530) (.ref 531) 532 906 907
noncomputable def kb534 (_ : Params) : Obj := ko "_law_with_letter" 89 "law_rollmend_k18_refused" 851 533
noncomputable def kb535 (_ : Params) : Obj := k0
noncomputable def kb537 (_ : Params) : Obj := { cls := .type "tuple", data := Data.seq #[ks "_law_kind" 912, ks "_law_cell" 913, ks "_law_odd" 914, ks "_law_some" 915, ks "_law_full" 916, ks "_law_card" 917] }
noncomputable def kb538 (_ : Params) : Obj := k0
noncomputable def kb540 (_ : Params) : Obj := kc "_law_bad" 909 406 2 535 (.ref 537) (.ref 538) 539 918 919
noncomputable def kb541 (_ : Params) : Obj := ko "_law_bad" 90 "law_rollmend_k18_refused" 851 540
noncomputable def kb542 (_ : Params) : Obj := k0
noncomputable def kb544 (_ : Params) : Obj := { cls := .type "tuple", data := Data.seq #[ks "_law_kind" 924, ks "_law_cell" 925, ks "_law_what" 926, ks "_law_bad_here" 927, ks "_law_key" 928, ks "_law_other" 929] }
noncomputable def kb545 (_ : Params) : Obj := k0
noncomputable def kb547 (_ : Params) : Obj := kc "_law_case" 921 424 2 542 (.ref 544) (.ref 545) 546 930 931
noncomputable def kb548 (_ : Params) : Obj := ko "_law_case" 91 "law_rollmend_k18_refused" 851 547
noncomputable def kb549 (_ : Params) : Obj := k0
noncomputable def kb551 (_ : Params) : Obj := { cls := .type "tuple", data := Data.seq #[ks "_law_script" 936, ks "_law_kind" 937, ks "e" 938, ks "_law_own" 939] }
noncomputable def kb552 (_ : Params) : Obj := k0
noncomputable def kb554 (_ : Params) : Obj := kc "law" 933 438 1 549 (.ref 551) (.ref 552) 553 940 941
noncomputable def kb555 (_ : Params) : Obj := ko "law" 92 "law_rollmend_k18_refused" 851 554
noncomputable def KF : Params → Frag := fun P => [(2, kb2 P), (3, kb3 P), (15, kb15 P), (22, kb22 P), (23, kb23 P), (24, kb24 P), (25, kb25 P), (28, kb28 P), (35, kb35 P), (36, kb36 P), (37, kb37 P), (40, kb40 P), (47, kb47 P), (48, kb48 P), (49, kb49 P), (52, kb52 P), (59, kb59 P), (60, kb60 P), (61, kb61 P), (64, kb64 P), (71, kb71 P), (72, kb72 P), (73, kb73 P), (76, kb76 P), (83, kb83 P), (84, kb84 P), (85, kb85 P), (88, kb88 P), (95, kb95 P), (96, kb96 P), (97, kb97 P), (100, kb100 P), (107, kb107 P), (108, kb108 P), (109, kb109 P), (112, kb112 P), (114, kb114 P), (115, kb115 P), (117, kb117 P), (118, kb118 P), (119, kb119 P), (121, kb121 P), (122, kb122 P), (124, kb124 P), (125, kb125 P), (126, kb126 P), (128, kb128 P), (129, kb129 P), (131, kb131 P), (132, kb132 P), (133, kb133 P), (135, kb135 P), (136, kb136 P), (138, kb138 P), (139, kb139 P), (140, kb140 P), (143, kb143 P), (144, kb144 P), (145, kb145 P), (147, kb147 P), (148, kb148 P), (150, kb150 P), (151, kb151 P), (152, kb152 P), (154, kb154 P), (155, kb155 P), (157, kb157 P), (158, kb158 P), (159, kb159 P), (161, kb161 P), (162, kb162 P), (164, kb164 P), (165, kb165 P), (166, kb166 P), (168, kb168 P), (169, kb169 P), (171, kb171 P), (172, kb172 P), (173, kb173 P), (175, kb175 P), (176, kb176 P), (178, kb178 P), (179, kb179 P), (180, kb180 P), (183, kb183 P), (184, kb184 P), (185, kb185 P), (188, kb188 P), (189, kb189 P), (190, kb190 P), (192, kb192 P), (193, kb193 P), (195, kb195 P), (196, kb196 P), (197, kb197 P), (199, kb199 P), (200, kb200 P), (202, kb202 P), (203, kb203 P), (204, kb204 P), (206, kb206 P), (207, kb207 P), (209, kb209 P), (210, kb210 P), (211, kb211 P), (214, kb214 P), (215, kb215 P), (216, kb216 P), (218, kb218 P), (219, kb219 P), (221, kb221 P), (222, kb222 P), (223, kb223 P), (225, kb225 P), (226, kb226 P), (228, kb228 P), (229, kb229 P), (230, kb230 P), (232, kb232 P), (233, kb233 P), (235, kb235 P), (236, kb236 P), (237, kb237 P), (239, kb239 P), (240, kb240 P), (242, kb242 P), (243, kb243 P), (244, kb244 P), (246, kb246 P), (247, kb247 P), (249, kb249 P), (250, kb250 P), (251, kb251 P), (253, kb253 P), (254, kb254 P), (256, kb256 P), (257, kb257 P), (258, kb258 P), (260, kb260 P), (261, kb261 P), (263, kb263 P), (264, kb264 P), (265, kb265 P), (267, kb267 P), (268, kb268 P), (270, kb270 P), (271, kb271 P), (272, kb272 P), (274, kb274 P), (275, kb275 P), (277, kb277 P), (278, kb278 P), (279, kb279 P), (281, kb281 P), (282, kb282 P), (284, kb284 P), (285, kb285 P), (286, kb286 P), (288, kb288 P), (289, kb289 P), (291, kb291 P), (292, kb292 P), (293, kb293 P), (295, kb295 P), (296, kb296 P), (298, kb298 P), (299, kb299 P), (300, kb300 P), (302, kb302 P), (303, kb303 P), (305, kb305 P), (306, kb306 P), (307, kb307 P), (309, kb309 P), (310, kb310 P), (312, kb312 P), (313, kb313 P), (314, kb314 P), (316, kb316 P), (317, kb317 P), (319, kb319 P), (320, kb320 P), (321, kb321 P), (323, kb323 P), (324, kb324 P), (326, kb326 P), (327, kb327 P), (328, kb328 P), (330, kb330 P), (331, kb331 P), (333, kb333 P), (334, kb334 P), (335, kb335 P), (337, kb337 P), (338, kb338 P), (340, kb340 P), (341, kb341 P), (342, kb342 P), (344, kb344 P), (345, kb345 P), (347, kb347 P), (348, kb348 P), (349, kb349 P), (352, kb352 P), (353, kb353 P), (354, kb354 P), (356, kb356 P), (357, kb357 P), (359, kb359 P), (360, kb360 P), (361, kb361 P), (363, kb363 P), (364, kb364 P), (366, kb366 P), (367, kb367 P), (368, kb368 P), (371, kb371 P), (372, kb372 P), (373, kb373 P), (375, kb375 P), (376, kb376 P), (378, kb378 P), (379, kb379 P), (380, kb380 P), (382, kb382 P), (383, kb383 P), (385, kb385 P), (386, kb386 P), (387, kb387 P), (389, kb389 P), (390, kb390 P), (392, kb392 P), (393, kb393 P), (394, kb394 P), (397, kb397 P), (398, kb398 P), (399, kb399 P), (401, kb401 P), (402, kb402 P), (404, kb404 P), (405, kb405 P), (406, kb406 P), (409, kb409 P), (410, kb410 P), (411, kb411 P), (413, kb413 P), (414, kb414 P), (416, kb416 P), (417, kb417 P), (418, kb418 P), (420, kb420 P), (421, kb421 P), (423, kb423 P), (424, kb424 P), (425, kb425 P), (427, kb427 P), (428, kb428 P), (430, kb430 P), (431, kb431 P), (432, kb432 P), (434, kb434 P), (435, kb435 P), (437, kb437 P), (438, kb438 P), (439, kb439 P), (441, kb441 P), (442, kb442 P), (444, kb444 P), (445, kb445 P), (446, kb446 P), (448, kb448 P), (449, kb449 P), (451, kb451 P), (452, kb452 P), (453, kb453 P), (455, kb455 P), (456, kb456 P), (458, kb458 P), (459, kb459 P), (460, kb460 P), (463, kb463 P), (464, kb464 P), (465, kb465 P), (467, kb467 P), (468, kb468 P), (470, kb470 P), (471, kb471 P), (472, kb472 P), (474, kb474 P), (475, kb475 P), (477, kb477 P), (478, kb478 P), (479, kb479 P), (481, kb481 P), (482, kb482 P), (484, kb484 P), (485, kb485 P), (486, kb486 P), (488, kb488 P), (489, kb489 P), (491, kb491 P), (492, kb492 P), (493, kb493 P), (495, kb495 P), (496, kb496 P), (498, kb498 P), (499, kb499 P), (500, kb500 P), (502, kb502 P), (503, kb503 P), (505, kb505 P), (506, kb506 P), (507, kb507 P), (509, kb509 P), (510, kb510 P), (512, kb512 P), (513, kb513 P), (514, kb514 P), (516, kb516 P), (517, kb517 P), (519, kb519 P), (520, kb520 P), (521, kb521 P), (523, kb523 P), (524, kb524 P), (526, kb526 P), (527, kb527 P), (528, kb528 P), (530, kb530 P), (531, kb531 P), (533, kb533 P), (534, kb534 P), (535, kb535 P), (537, kb537 P), (538, kb538 P), (540, kb540 P), (541, kb541 P), (542, kb542 P), (544, kb544 P), (545, kb545 P), (547, kb547 P), (548, kb548 P), (549, kb549 P), (551, kb551 P), (552, kb552 P), (554, kb554 P), (555, kb555 P)]
def KA : List Addr := [2, 3, 15, 22, 23, 24, 25, 28, 35, 36, 37, 40, 47, 48, 49, 52, 59, 60, 61, 64, 71, 72, 73, 76, 83, 84, 85, 88, 95, 96, 97, 100, 107, 108, 109, 112, 114, 115, 117, 118, 119, 121, 122, 124, 125, 126, 128, 129, 131, 132, 133, 135, 136, 138, 139, 140, 143, 144, 145, 147, 148, 150, 151, 152, 154, 155, 157, 158, 159, 161, 162, 164, 165, 166, 168, 169, 171, 172, 173, 175, 176, 178, 179, 180, 183, 184, 185, 188, 189, 190, 192, 193, 195, 196, 197, 199, 200, 202, 203, 204, 206, 207, 209, 210, 211, 214, 215, 216, 218, 219, 221, 222, 223, 225, 226, 228, 229, 230, 232, 233, 235, 236, 237, 239, 240, 242, 243, 244, 246, 247, 249, 250, 251, 253, 254, 256, 257, 258, 260, 261, 263, 264, 265, 267, 268, 270, 271, 272, 274, 275, 277, 278, 279, 281, 282, 284, 285, 286, 288, 289, 291, 292, 293, 295, 296, 298, 299, 300, 302, 303, 305, 306, 307, 309, 310, 312, 313, 314, 316, 317, 319, 320, 321, 323, 324, 326, 327, 328, 330, 331, 333, 334, 335, 337, 338, 340, 341, 342, 344, 345, 347, 348, 349, 352, 353, 354, 356, 357, 359, 360, 361, 363, 364, 366, 367, 368, 371, 372, 373, 375, 376, 378, 379, 380, 382, 383, 385, 386, 387, 389, 390, 392, 393, 394, 397, 398, 399, 401, 402, 404, 405, 406, 409, 410, 411, 413, 414, 416, 417, 418, 420, 421, 423, 424, 425, 427, 428, 430, 431, 432, 434, 435, 437, 438, 439, 441, 442, 444, 445, 446, 448, 449, 451, 452, 453, 455, 456, 458, 459, 460, 463, 464, 465, 467, 468, 470, 471, 472, 474, 475, 477, 478, 479, 481, 482, 484, 485, 486, 488, 489, 491, 492, 493, 495, 496, 498, 499, 500, 502, 503, 505, 506, 507, 509, 510, 512, 513, 514, 516, 517, 519, 520, 521, 523, 524, 526, 527, 528, 530, 531, 533, 534, 535, 537, 538, 540, 541, 542, 544, 545, 547, 548, 549, 551, 552, 554, 555]
noncomputable def qv : Program := view PySem.Challenge.pw_rollmend_k18_refused [1, 2, 3, 4, 5, 6, 7, 8, 10, 11, 12, 13, 14, 15, 16, 17, 18, 19, 20, 21, 22, 23, 24, 25, 26, 28, 29, 30, 31, 32, 33, 34, 35, 36, 37, 38, 39, 40, 41, 42, 43, 44, 45, 46, 47, 48, 50, 51, 52, 53, 54, 55, 57, 58, 59, 60, 61, 62, 63, 65, 66, 67, 68, 69, 71, 72, 73, 74, 75, 77, 78, 79, 81, 82, 84, 85, 86, 87, 88, 89, 90, 91, 92]
noncomputable abbrev HK : Hook := kHook KF KA (fun _ => rfl)
noncomputable abbrev xt : Shared → Bool := fun s => xlAt qv [] s && recOk [] s
noncomputable abbrev rn (w : World) (os : OsState) : Option SharedT := LH.runT treeTable PySem.Challenge.pw_rollmend_k18_refused w 11 (some (.ref 6)) 7866 ⟨LH.bootT w.params, 11, {}, Array.mk [], boot_drawn, boot_toks, os⟩ (topStub PySem.Challenge.pw_rollmend_k18_refused)
noncomputable def kz : Obj := { cls := .none, data := Data.fields #[] }
noncomputable def kg (x : String) (i : Nat) : Obj := ⟨.none, none, .func { kf x i (.none) (.none) (.none) (.none) (none) (.none) (.none) with globals := 0 }, #[]⟩
noncomputable def kq (x : String) (t : Tok) (l : Int) (r : Addr) : Obj := { cls := .type "code", data := Data.fields #[ks x t, ks x (t + 1), ks "/claim/cut.py" (t + 2), .int l 0, .int 0 0, .int 0 0, .int 0 0, .int 0 0, .ref r, .bool false, .int 181 0, .ref (r + 1), .none, .none, .none, .none, .int (t + 3 : Nat) 0, .int l 0, ks "/claim/cut.py" (t + 4)] }
noncomputable def kr (c d : Addr) (x : String) (t : Tok) : Obj := { cls := .type "frame", slots := #[some (.ref c), some (.ref 3), some (.ref d), none, some (ks x t), none, some (.ref 0)] }
noncomputable def kp (a : Addr) : Obj := { cls := .type "super", data := Data.fields #[.ref a, .ref a, .ref a] }
noncomputable def kw (x : String) (v : Value) : Obj := { cls := .type "builtin_function_or_method", data := Data.fields #[.builtin x, v] }
noncomputable def k1 (P : Params) (i : Nat) : Obj := (boot_heap P).objs.toList.getD i default
noncomputable def kb12 (_ : Params) : Obj := { cls := .none, data := Data.fields #[.int 2 0, .int 0 0, .ref 20, .int 4 0, .int 0 0, .ref 33, .int 6 0, .int 0 0, .ref 45, .int 8 0, .int 0 0, .ref 57, .int 10 0, .int 0 0, .ref 69, .int 12 0, .int 0 0, .ref 81, .int 14 0, .int 0 0, .ref 93, .int 16 0, .int 0 0, .ref 105, .int 27 0, .int 0 0, .ref 117, .int 29 0, .int 0 0, .ref 124, .int 31 0, .int 0 0, .ref 131, .int 33 0, .int 0 0, .ref 138, .int 36 0, .int 0 0, .ref 143, .int 40 0, .int 0 0, .ref 150, .int 46 0, .int 0 0, .ref 157, .int 49 0, .int 0 0, .ref 164, .int 52 0, .int 0 0, .ref 171, .int 57 0, .int 0 0, .ref 178, .int 60 0, .int 0 0, .ref 183, .int 64 0, .int 0 0, .ref 188, .int 67 0, .int 0 0, .ref 195, .int 70 0, .int 0 0, .ref 202, .int 81 0, .int 0 0, .ref 209, .int 84 0, .int 0 0, .ref 214, .int 88 0, .int 0 0, .ref 221, .int 96 0, .int 0 0, .ref 228, .int 98 0, .int 0 0, .ref 235, .int 105 0, .int 0 0, .ref 242, .int 107 0, .int 0 0, .ref 249, .int 109 0, .int 0 0, .ref 256, .int 121 0, .int 0 0, .ref 263, .int 124 0, .int 0 0, .ref 270, .int 129 0, .int 0 0, .ref 277, .int 131 0, .int 0 0, .ref 284, .int 138 0, .int 0 0, .ref 291, .int 149 0, .int 0 0, .ref 298, .int 159 0, .int 0 0, .ref 305, .int 164 0, .int 0 0, .ref 312, .int 174 0, .int 0 0, .ref 319, .int 180 0, .int 0 0, .ref 326, .int 189 0, .int 0 0, .ref 333, .int 193 0, .int 0 0, .ref 340, .int 197 0, .int 0 0, .ref 347, .int 203 0, .int 0 0, .ref 352, .int 208 0, .int 0 0, .ref 359, .int 232 0, .int 0 0, .ref 366, .int 234 0, .int 0 0, .ref 371, .int 237 0, .int 0 0, .ref 378, .int 244 0, .int 0 0, .ref 385, .int 250 0, .int 0 0, .ref 392, .int 255 0, .int 0 0, .ref 397, .int 262 0, .int 0 0, .ref 404, .int 271 0, .int 0 0, .ref 409, .int 274 0, .int 0 0, .ref 416, .int 281 0, .int 0 0, .ref 423, .int 286 0, .int 0 0, .ref 430, .int 290 0, .int 0 0, .ref 437, .int 292 0, .int 0 0, .ref 444, .int 304 0, .int 0 0, .ref 451, .int 315 0, .int 0 0, .ref 458, .int 321 0, .int 0 0, .ref 463, .int 324 0, .int 0 0, .ref 470, .int 328 0, .int 0 0, .ref 477, .int 338 0, .int 0 0, .ref 484, .int 344 0, .int 0 0, .ref 491, .int 347 0, .int 0 0, .ref 498, .int 353 0, .int 0 0, .ref 505, .int 356 0, .int 0 0, .ref 512, .int 370 0, .int 0 0, .ref 519, .int 382 0, .int 0 0, .ref 526, .int 400 0, .int 0 0, .ref 533, .int 406 0, .int 0 0, .ref 540, .int 424 0, .int 0 0, .ref 547, .int 438 0, .int 0 0, .ref 554] }
noncomputable def kb17 (P : Params) : Obj := { cls := .type "dict", data := Data.dict #[kn P "__module__" 196 (ks "rollmend.errors" 187), kn P "__qualname__" 198 (ks "MendError" 197), kn P "__firstlineno__" 200 (.int 2 199), kn P "__static_attributes__" 201 (.ref 22)] 4 }
noncomputable def kb30 (P : Params) : Obj := { cls := .type "dict", data := Data.dict #[kn P "__module__" 214 (ks "rollmend.errors" 187), kn P "__qualname__" 216 (ks "NoSigns" 215), kn P "__firstlineno__" 218 (.int 4 217), kn P "__static_attributes__" 219 (.ref 35)] 4 }
noncomputable def kb42 (P : Params) : Obj := { cls := .type "dict", data := Data.dict #[kn P "__module__" 230 (ks "rollmend.errors" 187), kn P "__qualname__" 232 (ks "NoKey" 231), kn P "__firstlineno__" 234 (.int 6 233), kn P "__static_attributes__" 235 (.ref 47)] 4 }
noncomputable def kb54 (P : Params) : Obj := { cls := .type "dict", data := Data.dict #[kn P "__module__" 246 (ks "rollmend.errors" 187), kn P "__qualname__" 248 (ks "NoSize" 247), kn P "__firstlineno__" 250 (.int 8 249), kn P "__static_attributes__" 251 (.ref 59)] 4 }
noncomputable def kb66 (P : Params) : Obj := { cls := .type "dict", data := Data.dict #[kn P "__module__" 262 (ks "rollmend.errors" 187), kn P "__qualname__" 264 (ks "NoLetter" 263), kn P "__firstlineno__" 266 (.int 10 265), kn P "__static_attributes__" 267 (.ref 71)] 4 }
noncomputable def kb78 (P : Params) : Obj := { cls := .type "dict", data := Data.dict #[kn P "__module__" 278 (ks "rollmend.errors" 187), kn P "__qualname__" 280 (ks "Beyond" 279), kn P "__firstlineno__" 282 (.int 12 281), kn P "__static_attributes__" 283 (.ref 83)] 4 }
noncomputable def kb90 (P : Params) : Obj := { cls := .type "dict", data := Data.dict #[kn P "__module__" 294 (ks "rollmend.errors" 187), kn P "__qualname__" 296 (ks "NoCards" 295), kn P "__firstlineno__" 298 (.int 14 297), kn P "__static_attributes__" 299 (.ref 95)] 4 }
noncomputable def kb102 (P : Params) : Obj := { cls := .type "dict", data := Data.dict #[kn P "__module__" 310 (ks "rollmend.errors" 187), kn P "__qualname__" 312 (ks "NoLines" 311), kn P "__firstlineno__" 314 (.int 16 313), kn P "__static_attributes__" 315 (.ref 107)] 4 }
noncomputable def LW : Params → List Obj := fun P => [k1 P 0, k1 P 1, kb2 P, kb3 P, k1 P 4, k1 P 5, k1 P 6, k1 P 7, k1 P 8, k1 P 9, k1 P 10, k0, kb12 P, kq "<module>" 182 1 11, kr 13 3 "__main__" 164, kb15 P, kw "type.__prepare__" (.type "type"), kb17 P, k0, kz, kq "MendError" 191 2 18, kr 20 17 "rollmend.errors" 187, kb22 P, kb23 P, kb24 P, kb25 P, kp 24, kw "object.__init_subclass__" (.ref 24), kb28 P, kw "type.__prepare__" (.type "type"), kb30 P, k0, kz, kq "NoSigns" 209 4 31, kr 33 30 "rollmend.errors" 187, kb35 P, kb36 P, kb37 P, kp 37, kw "object.__init_subclass__" (.ref 37), kb40 P, kw "type.__prepare__" (.type "type"), kb42 P, k0, kz, kq "NoKey" 225 6 43, kr 45 42 "rollmend.errors" 187, kb47 P, kb48 P, kb49 P, kp 49, kw "object.__init_subclass__" (.ref 49), kb52 P, kw "type.__prepare__" (.type "type"), kb54 P, k0, kz, kq "NoSize" 241 8 55, kr 57 54 "rollmend.errors" 187, kb59 P, kb60 P, kb61 P, kp 61, kw "object.__init_subclass__" (.ref 61), kb64 P, kw "type.__prepare__" (.type "type"), kb66 P, k0, kz, kq "NoLetter" 257 10 67, kr 69 66 "rollmend.errors" 187, kb71 P, kb72 P, kb73 P, kp 73, kw "object.__init_subclass__" (.ref 73), kb76 P, kw "type.__prepare__" (.type "type"), kb78 P, k0, kz, kq "Beyond" 273 12 79, kr 81 78 "rollmend.errors" 187, kb83 P, kb84 P, kb85 P, kp 85, kw "object.__init_subclass__" (.ref 85), kb88 P, kw "type.__prepare__" (.type "type"), kb90 P, k0, kz, kq "NoCards" 289 14 91, kr 93 90 "rollmend.errors" 187, kb95 P, kb96 P, kb97 P, kp 97, kw "object.__init_subclass__" (.ref 97), kb100 P, kw "type.__prepare__" (.type "type"), kb102 P, k0, kz, kq "NoLines" 305 16 103, kr 105 102 "rollmend.errors" 187, kb107 P, kb108 P, kb109 P, kp 109, kw "object.__init_subclass__" (.ref 109), kb112 P, kz, kb114 P, kb115 P, kg "is_whole" 18, kb117 P, kb118 P, kb119 P, kz, kb121 P, kb122 P, kg "is_from" 19, kb124 P, kb125 P, kb126 P, kz, kb128 P, kb129 P, kg "is_within" 20, kb131 P, kb132 P, kb133 P, kz, kb135 P, kb136 P, kg "is_sign" 21, kb138 P, kb139 P, kb140 P, kz, kg "is_text" 22, kb143 P, kb144 P, kb145 P, kz, kb147 P, kb148 P, kg "is_key" 23, kb150 P, kb151 P, kb152 P, kz, kb154 P, kb155 P, kg "check_text" 24, kb157 P, kb158 P, kb159 P, kz, kb161 P, kb162 P, kg "check_key" 25, kb164 P, kb165 P, kb166 P, kz, kb168 P, kb169 P, kg "check_size" 26, kb171 P, kb172 P, kb173 P, kz, kb175 P, kb176 P, kg "checked" 29, kb178 P, kb179 P, kb180 P, kz, kg "mended" 30, kb183 P, kb184 P, kb185 P, kz, kg "cost" 31, kb188 P, kb189 P, kb190 P, kz, kb192 P, kb193 P, kg "plain" 32, kb195 P, kb196 P, kb197 P, kz, kb199 P, kb200 P, kg "behind" 33, kb202 P, kb203 P, kb204 P, kz, kb206 P, kb207 P, kg "check_letter" 34, kb209 P, kb210 P, kb211 P, kz, kg "is_letter" 35, kb214 P, kb215 P, kb216 P, kz, kb218 P, kb219 P, kg "is_piece" 36, kb221 P, kb222 P, kb223 P, kz, kb225 P, kb226 P, kg "is_copy" 37, kb228 P, kb229 P, kb230 P, kz, kb232 P, kb233 P, kg "made_by_piece" 38, kb235 P, kb236 P, kb237 P, kz, kb239 P, kb240 P, kg "piece_cost" 39, kb242 P, kb243 P, kb244 P, kz, kb246 P, kb247 P, kg "piece_length" 40, kb249 P, kb250 P, kb251 P, kz, kb253 P, kb254 P, kg "joined" 41, kb256 P, kb257 P, kb258 P, kz, kb260 P, kb261 P, kg "add_signs" 42, kb263 P, kb264 P, kb265 P, kz, kb267 P, kb268 P, kg "add_copy" 43, kb270 P, kb271 P, kb272 P, kz, kb274 P, kb275 P, kg "goes_on" 44, kb277 P, kb278 P, kb279 P, kz, kb281 P, kb282 P, kg "piece_ends" 45, kb284 P, kb285 P, kb286 P, kz, kb288 P, kb289 P, kg "stretch_pieces" 46, kb291 P, kb292 P, kb293 P, kz, kb295 P, kb296 P, kg "piece_at" 47, kb298 P, kb299 P, kb300 P, kz, kb302 P, kb303 P, kg "trimmed" 48, kb305 P, kb306 P, kb307 P, kz, kb309 P, kb310 P, kg "first_sum" 50, kb312 P, kb313 P, kb314 P, kz, kb316 P, kb317 P, kg "rolled" 51, kb319 P, kb320 P, kb321 P, kz, kb323 P, kb324 P, kg "rolled_sums" 52, kb326 P, kb327 P, kb328 P, kz, kb330 P, kb331 P, kg "second_sum" 53, kb333 P, kb334 P, kb335 P, kz, kb337 P, kb338 P, kg "whole_sum" 54, kb340 P, kb341 P, kb342 P, kz, kb344 P, kb345 P, kg "chained" 55, kb347 P, kb348 P, kb349 P, kz, kg "cards" 57, kb352 P, kb353 P, kb354 P, kz, kb356 P, kb357 P, kg "found_by" 58, kb359 P, kb360 P, kb361 P, kz, kb363 P, kb364 P, kg "card_of" 59, kb366 P, kb367 P, kb368 P, kz, kg "check_cards" 60, kb371 P, kb372 P, kb373 P, kz, kb375 P, kb376 P, kg "is_card" 61, kb378 P, kb379 P, kb380 P, kz, kb382 P, kb383 P, kg "earliest_blocks" 62, kb385 P, kb386 P, kb387 P, kz, kb389 P, kb390 P, kg "fitting_block" 63, kb392 P, kb393 P, kb394 P, kz, kg "cut_places" 65, kb397 P, kb398 P, kb399 P, kz, kb401 P, kb402 P, kg "stretches" 66, kb404 P, kb405 P, kb406 P, kz, kg "found_by_cuts" 67, kb409 P, kb410 P, kb411 P, kz, kb413 P, kb414 P, kg "first_places" 68, kb416 P, kb417 P, kb418 P, kz, kb420 P, kb421 P, kg "piece_for" 69, kb423 P, kb424 P, kb425 P, kz, kb427 P, kb428 P, kg "least" 71, kb430 P, kb431 P, kb432 P, kz, kb434 P, kb435 P, kg "back" 72, kb437 P, kb438 P, kb439 P, kz, kb441 P, kb442 P, kg "least_between" 73, kb444 P, kb445 P, kb446 P, kz, kb448 P, kb449 P, kg "longest_copy" 74, kb451 P, kb452 P, kb453 P, kz, kb455 P, kb456 P, kg "alike" 75, kb458 P, kb459 P, kb460 P, kz, kg "shown" 77, kb463 P, kb464 P, kb465 P, kz, kb467 P, kb468 P, kg "line_of" 78, kb470 P, kb471 P, kb472 P, kz, kb474 P, kb475 P, kg "written" 79, kb477 P, kb478 P, kb479 P, kz, kb481 P, kb482 P, kg "talk" 81, kb484 P, kb485 P, kb486 P, kz, kb488 P, kb489 P, kg "all_signs" 82, kb491 P, kb492 P, kb493 P, kz, kb495 P, kb496 P, kg "_law_cell_at" 84, kb498 P, kb499 P, kb500 P, kz, kb502 P, kb503 P, kg "_law_mixed" 85, kb505 P, kb506 P, kb507 P, kz, kb509 P, kb510 P, kg "_law_with_key" 86, kb512 P, kb513 P, kb514 P, kz, kb516 P, kb517 P, kg "_law_with_size" 87, kb519 P, kb520 P, kb521 P, kz, kb523 P, kb524 P, kg "_law_with_text" 88, kb526 P, kb527 P, kb528 P, kz, kb530 P, kb531 P, kg "_law_with_letter" 89, kb533 P, kb534 P, kb535 P, kz, kb537 P, kb538 P, kg "_law_bad" 90, kb540 P, kb541 P, kb542 P, kz, kb544 P, kb545 P, kg "_law_case" 91, kb547 P, kb548 P, kb549 P, kz, kb551 P, kb552 P, kg "law" 92, kb554 P, kb555 P]
theorem rn1 : ∀ (w : World) (os : OsState), (rn w os).map (fun s => (s.tree.list s.n, s.life, s.gens)) = some (LW w.params, {}, Array.mk []) := fun w os => by kernel_rfl
theorem ln1 : ∀ (w : World) (d : Drawn) (k : Nat) (os : OsState), LH.chkS PySem.Challenge.pw_rollmend_k18_refused w (LH.wh LW w d k os) = true := fun w d k os => by kernel_rfl
theorem ln2 : ∀ (w : World) (d : Drawn) (k : Nat) (os : OsState), openSeen qv [] (importedModules PySem.Challenge.pw_rollmend_k18_refused.main.body) xt true (LH.wh LW w d k os) = openGood qv [] := fun w d k os => by kernel_rfl
theorem ln3 : ∀ (w : World) (d : Drawn) (k : Nat) (os : OsState), HK.obs (LH.wh LW w d k os) = HK.val w := fun w d k os => by kernel_rfl
theorem lft : LeftO PySem.Challenge.pw_rollmend_k18_refused qv [] xt HK.obs HK.val 7866 true := LH.left3 (by rfl) (by rfl) (fun _ => rfl) rn1 ln1 ln2 ln3
end
theorem kl499 (P : PySem.Params) : List.lookup 499 (KF P) = some (kb499 P) := by kernel_rfl
theorem kl506 (P : PySem.Params) : List.lookup 506 (KF P) = some (kb506 P) := by kernel_rfl
theorem kl541 (P : PySem.Params) : List.lookup 541 (KF P) = some (kb541 P) := by kernel_rfl
theorem kl118 (P : PySem.Params) : List.lookup 118 (KF P) = some (kb118 P) := by kernel_rfl
theorem kl125 (P : PySem.Params) : List.lookup 125 (KF P) = some (kb125 P) := by kernel_rfl
theorem kl132 (P : PySem.Params) : List.lookup 132 (KF P) = some (kb132 P) := by kernel_rfl
theorem kl151 (P : PySem.Params) : List.lookup 151 (KF P) = some (kb151 P) := by kernel_rfl
theorem kl165 (P : PySem.Params) : List.lookup 165 (KF P) = some (kb165 P) := by kernel_rfl
theorem kl139 (P : PySem.Params) : List.lookup 139 (KF P) = some (kb139 P) := by kernel_rfl
theorem kl144 (P : PySem.Params) : List.lookup 144 (KF P) = some (kb144 P) := by kernel_rfl
theorem kl158 (P : PySem.Params) : List.lookup 158 (KF P) = some (kb158 P) := by kernel_rfl
theorem kl229 (P : PySem.Params) : List.lookup 229 (KF P) = some (kb229 P) := by kernel_rfl
theorem kl222 (P : PySem.Params) : List.lookup 222 (KF P) = some (kb222 P) := by kernel_rfl
theorem kl215 (P : PySem.Params) : List.lookup 215 (KF P) = some (kb215 P) := by kernel_rfl
theorem kl210 (P : PySem.Params) : List.lookup 210 (KF P) = some (kb210 P) := by kernel_rfl
theorem kl196 (P : PySem.Params) : List.lookup 196 (KF P) = some (kb196 P) := by kernel_rfl
theorem kl313 (P : PySem.Params) : List.lookup 313 (KF P) = some (kb313 P) := by kernel_rfl
theorem kl348 (P : PySem.Params) : List.lookup 348 (KF P) = some (kb348 P) := by kernel_rfl
theorem kl334 (P : PySem.Params) : List.lookup 334 (KF P) = some (kb334 P) := by kernel_rfl
theorem kl341 (P : PySem.Params) : List.lookup 341 (KF P) = some (kb341 P) := by kernel_rfl
theorem kl320 (P : PySem.Params) : List.lookup 320 (KF P) = some (kb320 P) := by kernel_rfl
theorem kl172 (P : PySem.Params) : List.lookup 172 (KF P) = some (kb172 P) := by kernel_rfl
theorem kl367 (P : PySem.Params) : List.lookup 367 (KF P) = some (kb367 P) := by kernel_rfl
theorem kl353 (P : PySem.Params) : List.lookup 353 (KF P) = some (kb353 P) := by kernel_rfl
theorem kl379 (P : PySem.Params) : List.lookup 379 (KF P) = some (kb379 P) := by kernel_rfl
theorem kl372 (P : PySem.Params) : List.lookup 372 (KF P) = some (kb372 P) := by kernel_rfl
theorem kl360 (P : PySem.Params) : List.lookup 360 (KF P) = some (kb360 P) := by kernel_rfl
theorem kl485 (P : PySem.Params) : List.lookup 485 (KF P) = some (kb485 P) := by kernel_rfl
theorem kl417 (P : PySem.Params) : List.lookup 417 (KF P) = some (kb417 P) := by kernel_rfl
theorem kl327 (P : PySem.Params) : List.lookup 327 (KF P) = some (kb327 P) := by kernel_rfl
theorem kl398 (P : PySem.Params) : List.lookup 398 (KF P) = some (kb398 P) := by kernel_rfl
theorem kl405 (P : PySem.Params) : List.lookup 405 (KF P) = some (kb405 P) := by kernel_rfl
theorem kl410 (P : PySem.Params) : List.lookup 410 (KF P) = some (kb410 P) := by kernel_rfl
theorem kl513 (P : PySem.Params) : List.lookup 513 (KF P) = some (kb513 P) := by kernel_rfl
theorem kl520 (P : PySem.Params) : List.lookup 520 (KF P) = some (kb520 P) := by kernel_rfl
theorem kl431 (P : PySem.Params) : List.lookup 431 (KF P) = some (kb431 P) := by kernel_rfl
theorem kl184 (P : PySem.Params) : List.lookup 184 (KF P) = some (kb184 P) := by kernel_rfl
theorem kl438 (P : PySem.Params) : List.lookup 438 (KF P) = some (kb438 P) := by kernel_rfl
theorem kl527 (P : PySem.Params) : List.lookup 527 (KF P) = some (kb527 P) := by kernel_rfl
theorem kl179 (P : PySem.Params) : List.lookup 179 (KF P) = some (kb179 P) := by kernel_rfl
theorem kl189 (P : PySem.Params) : List.lookup 189 (KF P) = some (kb189 P) := by kernel_rfl
theorem kl464 (P : PySem.Params) : List.lookup 464 (KF P) = some (kb464 P) := by kernel_rfl
theorem kl203 (P : PySem.Params) : List.lookup 203 (KF P) = some (kb203 P) := by kernel_rfl
theorem kl534 (P : PySem.Params) : List.lookup 534 (KF P) = some (kb534 P) := by kernel_rfl
theorem kl548 (P : PySem.Params) : List.lookup 548 (KF P) = some (kb548 P) := by kernel_rfl
theorem kl555 (P : PySem.Params) : List.lookup 555 (KF P) = some (kb555 P) := by kernel_rfl
end A

set_option Elab.async false
set_option linter.all false
set_option maxRecDepth 100000
set_option maxHeartbeats 4000000
namespace M
open PySem PySem.Spec PyProof.Rows L2

noncomputable abbrev NkD := Addr → List (List Key × Key) → List Addr → List Addr → Heap → Prop
noncomputable def NkG (G : Hp) (ks : List (List Key × Key)) (kas : List Addr) : Prop := ∀ (j : Nat) (k : List Key × Key) (ka : Addr), ks[j]? = some k → kas[j]? = some ka → ∃ b, G ka = some (.tup [.ref b, kV k.2]) ∧ G b = some (.tup (k.1.map kV))
inductive D where
 | non | bl (b : Bool) | int (i : Int) | str (x : Str) | tup (ds : List D) | lst (ds : List D)
 /-- a dict: its keys (ints and texts; tuples of them), its values -/
 | dct (ks : List Key) (ds : List D) | dtt (ks : List (List Key)) (ds : List D)
 | dnn (Φ : NkD) (ks : List (List Key × Key)) (ds : List D)
 /-- an exception of the text's class c -/
 | exn (c : Str)
 deriving Inhabited

mutual
noncomputable def Is (K : PySem.W.Frag) (G : Hp) : D → V → Prop
 | .non, v => v = .non
 | .bl b, v => v = .bl b
 | .int i, v => v = .int i
 | .str x, v => v = .str x ∧ x.length ≤ sizeLine ∧ PyData.strOk x = true
 | .tup ds, v => ∃ a xs, v = .ref a ∧ G a = some (.tup xs) ∧ xs.length ≤ sizeLine ∧ IsL K G ds xs
 | .lst ds, v => ∃ a xs, v = .ref a ∧ SqL K G a xs ∧ xs.length ≤ sizeLine ∧ IsL K G ds xs
 | .dct ks ds, v => ∃ a xs, v = .ref a ∧ G a = some (.dK (ks.zip xs)) ∧ ks.length = xs.length ∧ IsL K G ds xs
 | .dtt ks ds, v => ∃ a xs, v = .ref a ∧ G a = some (.dT (ks.zip xs)) ∧ ks.length = xs.length ∧ IsL K G ds xs
 | .dnn Φ ks ds, v => ∃ a kas bs, v = .ref a ∧ G a = some (.ext (Φ a ks kas bs)) ∧ ks.length = kas.length ∧ ks.length = bs.length ∧ NkG G ks kas ∧ IsL K G ds (bs.map V.ref)
 | .exn c, v => ∃ a φ C, v = .ref a ∧ G a = some (.ext φ) ∧ (∀ h : Heap, φ h → ∃ o, h.get? a = some o ∧ o.cls = .ref C) ∧ PySem.W.nsIn K mainGlobals c = some (some (.ref C))
noncomputable def IsL (K : PySem.W.Frag) (G : Hp) : List D → List V → Prop
 | [], xs => xs = []
 | d :: ds, xs => ∃ x r, xs = x :: r ∧ Is K G d x ∧ IsL K G ds r
end

section
variable {K : PySem.W.Frag} {G G' H : Hp}
theorem SqT.same {a : Addr} {xs : List V} (e : Same G G') (h : G a = some (.tup xs)) : SqT K G' a xs := .of (e _ _ h)
theorem NkG.same {ks : List (List Key × Key)} {kas : List Addr} (e : Same G G') (h : NkG G ks kas) : NkG G' ks kas := fun j k ka h1 h2 => let ⟨b, z1, z2⟩ := h j k ka h1 h2; ⟨b, e _ _ z1, e _ _ z2⟩
mutual
theorem Is.same (e : Same G G') : ∀ {d : D} {v : V}, Is K G d v → Is K G' d v
 | .non, v, h => h
 | .bl b, v, h => h
 | .int i, v, h => h
 | .str x, v, h => h
 | .tup ds, v, h => by
  obtain ⟨a, xs, rfl, h1, h2, h3⟩ := h
  exact ⟨a, xs, rfl, e _ _ h1, h2, IsL.same e h3⟩
 | .lst ds, v, h => by
  obtain ⟨a, xs, rfl, h1, h2, h3⟩ := h
  exact ⟨a, xs, rfl, e.seq h1, h2, IsL.same e h3⟩
 | .dct ks ds, v, h => by
  obtain ⟨a, xs, rfl, h1, h2, h3⟩ := h
  exact ⟨a, xs, rfl, e _ _ h1, h2, IsL.same e h3⟩
 | .dtt ks ds, v, h => by
  obtain ⟨a, xs, rfl, h1, h2, h3⟩ := h
  exact ⟨a, xs, rfl, e _ _ h1, h2, IsL.same e h3⟩
 | .dnn Φ ks ds, v, h => by
  obtain ⟨a, kas, bs, rfl, h1, h2, h3, h4, h5⟩ := h
  exact ⟨a, kas, bs, rfl, e _ _ h1, h2, h3, h4.same e, IsL.same e h5⟩
 | .exn c, v, h => by
  obtain ⟨a, φ, C, rfl, h1, h2, h3⟩ := h
  exact ⟨a, φ, C, rfl, e _ _ h1, h2, h3⟩
theorem IsL.same (e : Same G G') : ∀ {ds : List D} {xs : List V}, IsL K G ds xs → IsL K G' ds xs
 | [], xs, h => h
 | d :: ds, xs, h => by
  obtain ⟨x, r, rfl, h1, h2⟩ := h
  exact ⟨x, r, rfl, Is.same e h1, IsL.same e h2⟩
end
theorem IsL.length : ∀ {ds : List D} {xs : List V}, IsL K G ds xs → xs.length = ds.length
 | [], xs, h => by rw [show xs = [] from h]; rfl
 | d :: ds, xs, h => by
  obtain ⟨x, r, rfl, h1, h2⟩ := h
  simp [IsL.length h2]
theorem IsL.get : ∀ {ds : List D} {xs : List V} {i : Nat} {d : D}, IsL K G ds xs → ds[i]? = some d → ∃ x, xs[i]? = some x ∧ Is K G d x
 | [], _, _, _, _, e => by simp at e
 | d :: ds, xs, 0, d', h, e => by
  obtain ⟨x, r, rfl, h1, h2⟩ := h
  simp at e; subst e
  exact ⟨x, rfl, h1⟩
 | d :: ds, xs, i + 1, d', h, e => by
  obtain ⟨x, r, rfl, h1, h2⟩ := h
  obtain ⟨y, e1, e2⟩ := IsL.get (i := i) h2 (by simpa using e)
  exact ⟨y, by simpa using e1, e2⟩
theorem IsL.append : ∀ {ds es : List D} {xs ys : List V}, IsL K G ds xs → IsL K G es ys → IsL K G (ds ++ es) (xs ++ ys)
 | [], es, xs, ys, h, h' => by rw [show xs = [] from h]; exact h'
 | d :: ds, es, xs, ys, h, h' => by
  obtain ⟨x, r, rfl, h1, h2⟩ := h
  exact ⟨x, r ++ ys, rfl, h1, IsL.append h2 h'⟩
theorem IsL.one {d : D} {v : V} (h : Is K G d v) : IsL K G [d] [v] := ⟨v, [], rfl, h, rfl⟩
theorem IsL.take : ∀ {ds : List D} {xs : List V} (n : Nat), IsL K G ds xs → IsL K G (ds.take n) (xs.take n)
 | _, _, 0, _ => rfl
 | [], xs, n + 1, h => by rw [show xs = [] from h]; rfl
 | d :: ds, xs, n + 1, h => by
  obtain ⟨x, r, rfl, h1, h2⟩ := h
  exact ⟨x, r.take n, rfl, h1, IsL.take n h2⟩
theorem IsL.drop : ∀ {ds : List D} {xs : List V} (n : Nat), IsL K G ds xs → IsL K G (ds.drop n) (xs.drop n)
 | _, _, 0, h => h
 | [], xs, n + 1, h => by rw [show xs = [] from h]; rfl
 | d :: ds, xs, n + 1, h => by
  obtain ⟨x, r, rfl, h1, h2⟩ := h
  exact IsL.drop n h2
theorem IsL.nil : IsL K G [] [] := rfl
theorem IsL.cons {d : D} {v : V} {ds : List D} {xs : List V} (h : Is K G d v) (t : IsL K G ds xs) : IsL K G (d :: ds) (v :: xs) := ⟨v, xs, rfl, h, t⟩
theorem isL_ints : ∀ ns : List Int, IsL K G (ns.map D.int) (ns.map V.int)
 | [] => rfl
 | n :: ns => ⟨.int n, ns.map V.int, rfl, rfl, isL_ints ns⟩
end

inductive Rs (α : Type) where
 | ok (a : α) | exc (c : Str) | bad
noncomputable def Rs.bind {α β : Type} : Rs α → (α → Rs β) → Rs β
 | .ok a, f => f a
 | .exc c, _ => .exc c
 | .bad, _ => .bad
noncomputable instance : Monad Rs where
 pure := Rs.ok
 bind := Rs.bind
theorem nodef {α : Type} {a b : α} (h : a = b) : a = b := h
@[simp] theorem ok_bind {α β : Type} (a : α) (f : α → Rs β) : (Rs.ok a >>= f) = f a := nodef rfl
@[simp] theorem exc_bind {α β : Type} (c : Str) (f : α → Rs β) : (Rs.exc c >>= f) = Rs.exc c := nodef rfl
structure Ext (H G H' G' : Hp) : Prop where
 hh : Same H H'
 gg : Same G G'
 gh : Same G' H'
 new : ∀ b o, G' b = some o → G b = some o ∨ H b = none
theorem Ext.trans {H G H1 G1 H2 G2 : Hp} (a : Ext H G H1 G1) (b : Ext H1 G1 H2 G2) : Ext H G H2 G2 :=
 ⟨a.hh.trans b.hh, a.gg.trans b.gg, b.gh, fun c o e => by
  rcases b.new c o e with h | h
  ·exact a.new c o h
  ·exact .inr (a.hh.free h)⟩
theorem Ext.refl {H G : Hp} (h : Same G H) : Ext H G H G := ⟨Same.refl _, Same.refl _, h, fun _ _ e => .inl e⟩
theorem same_upd {H : Hp} {p : Addr} (h : H p = none) (o : HO) : Same H (upd H p o) := fun b u q => by rw [upd_ne (ne_of_none q h)]; exact q
theorem Ext.laid {H G : Hp} {p : Addr} {o : HO} (gh : Same G H) (h : H p = none) : Ext H G (upd H p o) (upd G p o) := by
 have hg : G p = none := gh.free h
 refine ⟨same_upd h o, same_upd hg o, fun b u q => ?_, fun b u q => ?_⟩
 ·by_cases hb : b = p
  ·subst hb; rw [upd_same] at q ⊢; exact q
  ·rw [upd_ne hb] at q ⊢; exact gh b u q
 ·by_cases hb : b = p
  ·subst hb; exact .inr h
  ·rw [upd_ne hb] at q; exact .inl q
theorem Ext.own {H G : Hp} {p : Addr} {o : HO} (gh : Same G H) (h : H p = none) : Ext H G (upd H p o) G :=
 ⟨same_upd h o, Same.refl _, gh.trans (same_upd h o), fun _ _ e => .inl e⟩
end M

set_option Elab.async false
set_option linter.all false
set_option maxRecDepth 100000
set_option maxHeartbeats 4000000
namespace M
open PySem PySem.Spec PyProof.Rows L2
set_option autoImplicit false
noncomputable abbrev St := L2.St

inductive Kd where
 | l | d (ks : List Key) | t (ks : List (List Key))
noncomputable abbrev Kd.obj : Kd → List V → HO
 | .l, xs => .lst xs
 | .d ks, xs => .dK (ks.zip xs)
 | .t ks, xs => .dT (ks.zip xs)
noncomputable abbrev Kd.fit : Kd → List V → Prop
 | .l, xs => xs.length ≤ sizeLine
 | .d ks, xs => ks.length = xs.length
 | .t ks, xs => ks.length = xs.length
noncomputable def Kd.dat : Kd → List D → D
 | .l, ds => .lst ds
 | .d ks, ds => .dct ks ds
 | .t ks, ds => .dtt ks ds
inductive Sl where
 | v (d : D) | ow (k : Kd) (ds : List D)
noncomputable abbrev Sl.own (ds : List D) : Sl := .ow .l ds
noncomputable abbrev DS := List (Option Sl)

structure Rel (X : Cx) (B G₀ : Hp) (σ : St) (H G : Hp) (δ : DS) : Prop where
 ext : Ext B G₀ H G
 len : σ.length = δ.length
 val : ∀ (i : Nat) (d : D), δ[i]? = some (some (.v d)) → ∃ v, σ[i]? = some (some v) ∧ Is X.K G d v
 own : ∀ (i : Nat) {k : Kd} (ds : List D), δ[i]? = some (some (.ow k ds)) → ∃ a xs, σ[i]? = some (some (.ref a)) ∧ H a = some (k.obj xs) ∧ G a = none ∧ B a = none ∧ k.fit xs ∧ IsL X.K G ds xs
 apart : ∀ (i j : Nat) {k k' : Kd} (ds es : List D) (a : Addr), δ[i]? = some (some (.ow k ds)) → δ[j]? = some (some (.ow k' es)) → σ[i]? = some (some (.ref a)) → σ[j]? = some (some (.ref a)) → i = j

section
variable {X : Cx} {B G₀ : Hp} {σ : St} {H G H1 G1 : Hp} {δ : DS}
theorem Rel.mono (R : Rel X B G₀ σ H G δ) (e : Ext H G H1 G1) : Rel X B G₀ σ H1 G1 δ where
 ext := R.ext.trans e
 len := R.len
 val := fun i d h => let ⟨v, h1, h2⟩ := R.val i d h; ⟨v, h1, h2.same e.gg⟩
 own := fun i k ds h => by
  obtain ⟨a, xs, h1, h2, h3, h4, hz, h5⟩ := R.own i ds h
  refine ⟨a, xs, h1, e.hh _ _ h2, ?_, h4, hz, h5.same e.gg⟩
  cases q : G1 a with
  | none => rfl
  | some o =>
   rcases e.new a o q with z | z
   ·rw [h3] at z; cases z
   ·rw [h2] at z; cases z
 apart := R.apart
theorem Rel.set (R : Rel X B G₀ σ H G δ) (i : Nat) {d : D} {v : V} (h : Is X.K G d v) : Rel X B G₀ (σ.set i (some v)) H G (δ.set i (some (.v d))) where
 ext := R.ext
 len := by simp [R.len]
 val := fun j e q => by
  by_cases hj : i = j
  ·subst hj
   rw [List.getElem?_set] at q
   simp only [if_true] at q
   split at q
   ·rename_i hl
    cases q
    refine ⟨v, ?_, h⟩
    rw [List.getElem?_set]; simp only [if_true]; rw [if_pos (by rw [R.len]; exact hl)]
   ·cases q
  ·rw [List.getElem?_set_ne hj] at q ⊢
   exact R.val j e q
 own := fun j k0 es q => by
  by_cases hj : i = j
  ·subst hj
   rw [List.getElem?_set] at q
   simp only [if_true] at q
   split at q <;> cases q
  ·rw [List.getElem?_set_ne hj] at q
   obtain ⟨a, xs, h1, h2⟩ := R.own j es q
   exact ⟨a, xs, by rw [List.getElem?_set_ne hj]; exact h1, h2⟩
 apart := fun j k k1 k2 ds es a h1 h2 h3 h4 => by
  have nj : ∀ {j : Nat} {k0 : Kd} {ds : List D}, (δ.set i (some (.v d)))[j]? = some (some (.ow k0 ds)) → i ≠ j := fun {j k0 ds} q e => by
   subst e
   rw [List.getElem?_set] at q
   simp only [if_true] at q
   split at q <;> cases q
  have a1 := nj h1
  have a2 := nj h2
  rw [List.getElem?_set_ne a1] at h1 h3
  rw [List.getElem?_set_ne a2] at h2 h4
  exact R.apart j k ds es a h1 h2 h3 h4
noncomputable def shareS : Option Sl → Option Sl
 | some (.ow k ds) => some (.v (k.dat ds))
 | x => x
noncomputable def share (δ : DS) : DS := δ.map shareS
end

theorem Rel.setOwnK {X : Cx} {B G₀ : Hp} {σ : St} {H G H1 : Hp} {δ : DS} (R : Rel X B G₀ σ H G δ) (i : Nat) {kd : Kd} {ds : List D} {a : Addr} {xs : List V} (h1 : H a = none) (hh : Same H H1) (ha : H1 a = some (kd.obj xs)) (hG : Same G H1) (hz : kd.fit xs) (hI : IsL X.K G ds xs) :
  Rel X B G₀ (σ.set i (some (.ref a))) H1 G (δ.set i (some (.ow kd ds))) := by
 have R1 : Rel X B G₀ σ H1 G δ := R.mono ⟨hh, Same.refl _, hG, fun _ _ e => .inl e⟩
 have hGa : G a = none := R.ext.gh.free h1
 have hBa : B a = none := R.ext.hh.free h1
 have ne : ∀ (j : Nat) {k0 : Kd} (es : List D), δ[j]? = some (some (.ow k0 es)) → ∀ b, σ[j]? = some (some (.ref b)) → b ≠ a := fun j k0 es q b hb e => by
  obtain ⟨c, ys, q1, q2, _⟩ := R.own j es q
  rw [hb] at q1; cases q1
  rw [e, h1] at q2; cases q2
 refine ⟨R1.ext, by simp [R.len], fun j e q => ?_, fun j k0 es q => ?_, fun j k k1 k2 ds1 es1 b q1 q2 q3 q4 => ?_⟩
 ·by_cases hj : i = j
  ·subst hj
   rw [List.getElem?_set] at q
   simp only [if_true] at q
   split at q <;> cases q
  ·rw [List.getElem?_set_ne hj] at q ⊢
   exact R1.val j e q
 ·by_cases hj : i = j
  ·subst hj
   rw [List.getElem?_set] at q
   simp only [if_true] at q
   split at q
   ·rename_i hl
    cases q
    refine ⟨a, xs, ?_, ha, hGa, hBa, hz, hI⟩
    rw [List.getElem?_set]; simp only [if_true]; rw [if_pos (by rw [R.len]; exact hl)]
   ·cases q
  ·rw [List.getElem?_set_ne hj] at q
   obtain ⟨c, ys, z1, z2⟩ := R1.own j es q
   exact ⟨c, ys, by rw [List.getElem?_set_ne hj]; exact z1, z2⟩
 ·have at_i : ∀ {b : Addr} {j : Nat}, i = j → (σ.set i (some (V.ref a)))[j]? = some (some (.ref b)) → b = a := fun {b j} e q => by
   subst e
   rw [List.getElem?_set] at q
   simp only [if_true] at q
   split at q
   ·cases q; rfl
   ·cases q
  by_cases hj : i = j
  ·by_cases hk : i = k
   ·exact hj.symm.trans hk
   ·exfalso
    have e := at_i hj q3
    rw [List.getElem?_set_ne hk] at q2 q4
    exact ne k es1 q2 b q4 e
  ·by_cases hk : i = k
   ·exfalso
    have e := at_i hk q4
    rw [List.getElem?_set_ne hj] at q1 q3
    exact ne j ds1 q1 b q3 e
   ·rw [List.getElem?_set_ne hj] at q1 q3
    rw [List.getElem?_set_ne hk] at q2 q4
    exact R.apart j k ds1 es1 b q1 q2 q3 q4
theorem Rel.setOwn {X : Cx} {B G₀ : Hp} {σ : St} {H G H1 : Hp} {δ : DS} (R : Rel X B G₀ σ H G δ) (i : Nat) {ds : List D} {a : Addr} {xs : List V} (h1 : H a = none) (hh : Same H H1) (ha : H1 a = some (.lst xs)) (hG : Same G H1) (hz : xs.length ≤ sizeLine) (hI : IsL X.K G ds xs) :
  Rel X B G₀ (σ.set i (some (.ref a))) H1 G (δ.set i (some (.own ds))) := R.setOwnK (kd := .l) i h1 hh ha hG hz hI
theorem Rel.writeK {X : Cx} {B G₀ : Hp} {σ : St} {H G : Hp} {δ : DS} (R : Rel X B G₀ σ H G δ) {i : Nat} {k0 k1 : Kd} {ds es : List D} {a : Addr} {ys : List V} (hi : δ[i]? = some (some (.ow k0 ds))) (hσ : σ[i]? = some (some (.ref a))) (hz : k1.fit ys) (hI : IsL X.K G es ys) :
  Rel X B G₀ σ (upd H a (k1.obj ys)) G (δ.set i (some (.ow k1 es))) := by
 obtain ⟨a', xs, h1, h2, h3, h4, hz', h5⟩ := R.own i ds hi
 rw [hσ] at h1; cases h1
 have hl : i < δ.length := (List.getElem?_eq_some_iff.mp hi).1
 have sub : ∀ {F : Hp}, F a = none → Same F H → Same F (upd H a (k1.obj ys)) := fun {F} hF s b o q => by
  rw [upd_ne (ne_of_none q hF)]; exact s b o q
 refine ⟨⟨sub h4 R.ext.hh, R.ext.gg, sub h3 R.ext.gh, R.ext.new⟩, by simp [R.len], fun j e q => ?_, fun j k2 es1 q => ?_, fun j k k2 k3 ds1 es1 b q1 q2 q3 q4 => ?_⟩
 ·by_cases hj : i = j
  ·subst hj
   rw [List.getElem?_set] at q
   simp only [if_true] at q
   split at q <;> cases q
  ·rw [List.getElem?_set_ne hj] at q
   exact R.val j e q
 ·by_cases hj : i = j
  ·subst hj
   rw [List.getElem?_set] at q
   simp only [if_true] at q
   rw [if_pos hl] at q
   cases q
   exact ⟨a, ys, hσ, upd_same, h3, h4, hz, hI⟩
  ·rw [List.getElem?_set_ne hj] at q
   obtain ⟨c, zs, z1, z2, z3⟩ := R.own j es1 q
   refine ⟨c, zs, z1, ?_, z3⟩
   rw [upd_ne]; exact z2
   rintro rfl
   exact hj (R.apart i j ds es1 _ hi q hσ z1)
 ·have back : ∀ {j : Nat} {k4 : Kd} {ds1 : List D}, (δ.set i (some (.ow k1 es)))[j]? = some (some (.ow k4 ds1)) → ∃ k5 ds2, δ[j]? = some (some (.ow k5 ds2)) := fun {j k4 ds1} q => by
   by_cases hj : i = j
   ·subst hj; exact ⟨_, ds, hi⟩
   ·rw [List.getElem?_set_ne hj] at q; exact ⟨_, _, q⟩
  obtain ⟨_, d1, q1⟩ := back q1
  obtain ⟨_, d2, q2⟩ := back q2
  exact R.apart j k d1 d2 b q1 q2 q3 q4
theorem Rel.write {X : Cx} {B G₀ : Hp} {σ : St} {H G : Hp} {δ : DS} (R : Rel X B G₀ σ H G δ) {i : Nat} {k0 : Kd} {ds es : List D} {a : Addr} {ys : List V} (hi : δ[i]? = some (some (.ow k0 ds))) (hσ : σ[i]? = some (some (.ref a))) (hz : ys.length ≤ sizeLine) (hI : IsL X.K G es ys) :
  Rel X B G₀ σ (upd H a (.lst ys)) G (δ.set i (some (.own es))) := R.writeK (k1 := .l) hi hσ hz hI

noncomputable def ownAt (σ : St) (δ : DS) (a : Addr) : Prop := ∃ (i : Nat) (k : Kd) (ds : List D), δ[i]? = some (some (.ow k ds)) ∧ σ[i]? = some (some (.ref a))
open Classical in
noncomputable def withOwn (σ : St) (δ : DS) (H G : Hp) : Hp := fun b => if ownAt σ δ b then H b else G b
theorem Rel.share {X : Cx} {B G₀ : Hp} {σ : St} {H G : Hp} {δ : DS} (R : Rel X B G₀ σ H G δ) : ∃ G1, Rel X B G₀ σ H G1 (M.share δ) ∧ Same G G1 ∧ Same G1 H ∧ ∀ b o, G1 b = some o → G b = some o ∨ ownAt σ δ b := by
 have gg : Same G (withOwn σ δ H G) := fun b o q => by
  unfold withOwn
  split
  ·exact R.ext.gh b o q
  ·exact q
 have gh : Same (withOwn σ δ H G) H := fun b o q => by
  unfold withOwn at q
  split at q
  ·exact q
  ·exact R.ext.gh b o q
 have nw : ∀ b o, withOwn σ δ H G b = some o → G b = some o ∨ ownAt σ δ b := fun b o q => by
  unfold withOwn at q
  split at q
  ·rename_i h; exact .inr h
  ·exact .inl q
 refine ⟨withOwn σ δ H G, ?_, gg, gh, nw⟩
 have sh : ∀ (j : Nat), (M.share δ)[j]? = (δ[j]?).map shareS := fun j => by unfold M.share; rw [List.getElem?_map]
 refine ⟨⟨R.ext.hh, R.ext.gg.trans gg, gh, fun b o q => ?_⟩, by unfold M.share; rw [List.length_map]; exact R.len, fun i d q => ?_, fun i k0 ds q => ?_, fun i j k1 k2 ds es a q1 _ _ _ => ?_⟩
 ·rcases nw b o q with h | ⟨i, k0, ds, h1, h2⟩
  ·exact R.ext.new b o h
  ·obtain ⟨a, xs, z1, z2, z3, z4, _⟩ := R.own i ds h1
   rw [h2] at z1; cases z1
   exact .inr z4
 ·rw [sh] at q
  cases e : δ[i]? with
  | none => rw [e] at q; cases q
  | some s =>
   rw [e] at q
   cases s with
   | none => cases q
   | some s =>
    cases s with
    | v d' =>
     cases q
     obtain ⟨v, h1, h2⟩ := R.val i _ e
     exact ⟨v, h1, h2.same gg⟩
    | ow k ds =>
     cases q
     obtain ⟨a, xs, h1, h2, h3, h4, hz, h5⟩ := R.own i ds e
     have hw : withOwn σ δ H G a = some (k.obj xs) := by unfold withOwn; rw [if_pos ⟨i, k, ds, e, h1⟩]; exact h2
     cases k with
     | l => exact ⟨.ref a, h1, a, xs, rfl, .of hw, hz, h5.same gg⟩
     | d ks => exact ⟨.ref a, h1, a, xs, rfl, hw, hz, h5.same gg⟩
     | t ks => exact ⟨.ref a, h1, a, xs, rfl, hw, hz, h5.same gg⟩
 ·rw [sh] at q
  cases e : δ[i]? with
  | none => rw [e] at q; cases q
  | some s =>
   rw [e] at q
   cases s with
   | none => cases q
   | some s => cases s <;> cases q
 ·rw [sh] at q1
  cases e : δ[i]? with
  | none => rw [e] at q1; cases q1
  | some s =>
   rw [e] at q1
   cases s with
   | none => cases q1
   | some s => cases s <;> cases q1
end M

set_option Elab.async false
set_option linter.all false
set_option maxRecDepth 100000
set_option maxHeartbeats 4000000
namespace M
open PySem PySem.Spec PyProof.Rows L2
set_option autoImplicit false

structure UnB (fs : List Addr) (H H' : Hp) (h Bk h' : Heap) : Prop where
 keep : ∀ b o, h.get? b = some o → H b = none → b ∉ fs → Bk.get? b = some o
 slot : ∀ b o, h.get? b = some o → H b = none → b ∈ fs → ∃ sl, h'.get? b = some { o with slots := sl }
 free : ∀ b o, h.get? b = some o → H b = none → H' b = none
 same : Same H H'
noncomputable def Fl (Bk : Heap) (l : List Env) (e C : Addr) (h : Heap) : Prop :=
 (∃ t fl, Bk.StaysIn h ∧ Bk.get? e = none ∧ h.FunFrames Bk l ∧ h.TracedAtW Bk e (.ref C) (.ref t) fl) ∨
  ∃ h₁ vs, Bk.StaysIn h₁ ∧ h₁.FunFrames Bk l ∧ Heap.MadeExcOf h₁ h e (.ref C) vs
noncomputable def IsX (X : Cx) (c : Str) (H G : Hp) (s : Shared) (ev : Value) (s' : Shared) : Prop :=
 ∃ (e C : Addr) (Bk : Heap) (H' G' : Hp), ev = .ref e ∧ X.mg c = some (.ref C) ∧ Ext H G H' G' ∧ Fl Bk X.stack e C s'.heap ∧ s'.os = s.os ∧ AllBare s'.gens ∧ HOk X.prog X.w H' Bk ∧
  (∀ b o, H' b = some o → b ∉ frs X.stack) ∧ UnB (frs X.stack) H H' s.heap Bk s'.heap

noncomputable def Rs.wp {α : Type} (r : Rs α) (x : Str → Prop) (q : α → Prop) : Prop := match r with
 | .ok a => q a
 | .exc c => x c
 | .bad => False
theorem wp_bind {α β : Type} {r : Rs α} {f : α → Rs β} {x : Str → Prop} {q : β → Prop} : (r >>= f).wp x q ↔ r.wp x fun a => (f a).wp x q := by
 cases r <;> exact Iff.rfl
theorem Rs.wp.mono {α : Type} {r : Rs α} {x x' : Str → Prop} {q q' : α → Prop} (h : r.wp x q) (hx : ∀ c, x c → x' c) (hq : ∀ a, q a → q' a) : r.wp x' q' := by
 cases r with
 | ok a => exact hq a h
 | exc c => exact hx c h
 | bad => exact h

noncomputable def Xo (X : Cx) (c : Str) (σ : St) (H G : Hp) : Prop := ∀ (pins : List (Addr × Obj)) (s' : Shared) (H' G' : Hp) (ev : Value), Ext H G H' G' → Inv X pins σ H' s' → ∀ s'' : Shared, IsX X c H' G' s' ev s'' → X.xe ev s''
theorem Xo.mono {X : Cx} {c : Str} {σ : St} {H G H1 G1 : Hp} (e : Ext H G H1 G1) (h : Xo X c σ H G) : Xo X c σ H1 G1 := fun pins s' H' G' ev e' I x => h pins s' H' G' ev (e.trans e') I x

noncomputable def W (X : Cx) (Q : VK) (σ : St) (H G : Hp) (r : Rs D) : Prop := r.wp (fun c => Xo X c σ H G) fun d => ∀ v H' G', Ext H G H' G' → Is X.K G' d v → Q v H'
noncomputable def WT (X : Cx) (Q : Bool → Hp → Prop) (σ : St) (H G : Hp) (r : Rs Bool) : Prop := r.wp (fun c => Xo X c σ H G) fun b => ∀ H' G', Ext H G H' G' → Q b H'
noncomputable def WA (X : Cx) (Q : List V → Hp → Prop) (σ : St) (H G : Hp) (r : Rs (List D)) : Prop := r.wp (fun c => Xo X c σ H G) fun ds => ∀ vs H' G', Ext H G H' G' → IsL X.K G' ds vs → Q vs H'
section
variable {X : Cx} {σ : St} {H G H1 G1 : Hp}
end
noncomputable def tE (X : Cx) (B G₀ : Hp) (f : DS → Rs D) : TE := fun σ H Q => ∃ G δ, Rel X B G₀ σ H G δ ∧ W X Q σ H G (f δ)
noncomputable def tT (X : Cx) (B G₀ : Hp) (f : DS → Rs Bool) : TT := fun σ H Q => ∃ G δ, Rel X B G₀ σ H G δ ∧ WT X Q σ H G (f δ)
noncomputable def tAs (X : Cx) (B G₀ : Hp) (f : DS → Rs (List D)) : TA := fun σ H Q => ∃ G δ, Rel X B G₀ σ H G δ ∧ WA X Q σ H G (f δ)

section
variable {X : Cx} {B G₀ : Hp} {pins : List (Addr × Obj)} {s : Shared} {σ : St} {H G : Hp} {δ : DS}
theorem bindE {α : Type} {a : Expr} {fa : DS → Rs D} (ha : PE X a (tE X B G₀ fa)) (I : Inv X pins σ H s) (R : Rel X B G₀ σ H G δ) {k : D → Rs α} {q : α → Prop} {Post : Value → Shared → Prop}
  (hw : (fa δ >>= k).wp (fun c => Xo X c σ H G) q)
  (hk : ∀ d u v s' H' G', Inv X pins σ H' s' → Rel X B G₀ σ H' G' δ → RelV v u → Ext H G H' G' → Is X.K G' d v → (k d).wp (fun c => Xo X c σ H' G') q → Post u s') :
  wpAny (model X.prog X.w) X.A (eval a X.env) Post X.xe s := by
 rw [wp_bind] at hw
 refine thn (ha pins s σ H (fun v H' => ∃ d G', Ext H G H' G' ∧ Is X.K G' d v ∧ (k d).wp (fun c => Xo X c σ H' G') q) I ⟨G, δ, R, ?_⟩) ?_
 ·exact Rs.wp.mono hw (fun _ x => x) fun d q v H' G' e i => ⟨d, G', e, i, Rs.wp.mono q (fun _ x => x.mono e) fun _ z => z⟩
 ·intro u s' ⟨v, H', I', r, d, G', e, i, q⟩
  exact hk d u v s' H' G' I' (R.mono e) r e i q
theorem bindT {α : Type} {a : Expr} {fa : DS → Rs Bool} (ha : PT X a (tT X B G₀ fa)) (I : Inv X pins σ H s) (R : Rel X B G₀ σ H G δ) {k : Bool → Rs α} {q : α → Prop} {Post : Bool → Shared → Prop}
  (hw : (fa δ >>= k).wp (fun c => Xo X c σ H G) q)
  (hk : ∀ b s' H' G', Inv X pins σ H' s' → Rel X B G₀ σ H' G' δ → Ext H G H' G' → (k b).wp (fun c => Xo X c σ H' G') q → Post b s') :
  wpAny (model X.prog X.w) X.A (isTrue a X.env (eval a X.env)) Post X.xe s := by
 rw [wp_bind] at hw
 refine thn (ha pins s σ H (fun b H' => ∃ G', Ext H G H' G' ∧ (k b).wp (fun c => Xo X c σ H' G') q) I ⟨G, δ, R, ?_⟩) ?_
 ·exact Rs.wp.mono hw (fun _ x => x) fun d q H' G' e => ⟨G', e, Rs.wp.mono q (fun _ x => x.mono e) fun _ z => z⟩
 ·intro b s' ⟨H', I', G', e, q⟩
  exact hk b s' H' G' I' (R.mono e) e q
theorem bindA {α : Type} {es : List Expr} {fa : DS → Rs (List D)} {pos : Pos} (ha : PA X es (tAs X B G₀ fa)) (I : Inv X pins σ H s) (R : Rel X B G₀ σ H G δ) {k : List D → Rs α} {q : α → Prop} {Post : List Value → Shared → Prop}
  (hw : (fa δ >>= k).wp (fun c => Xo X c σ H G) q)
  (hk : ∀ ds us vs s' H' G', Inv X pins σ H' s' → Rel X B G₀ σ H' G' δ → Vals vs us → Ext H G H' G' → IsL X.K G' ds vs → (k ds).wp (fun c => Xo X c σ H' G') q → Post us s') :
  wpAny (model X.prog X.w) X.A (spliced (backTo pos (starEach es X.env))) Post X.xe s := by
 rw [wp_bind] at hw
 refine thn (ha pos pins s σ H (fun vs H' => ∃ ds G', Ext H G H' G' ∧ IsL X.K G' ds vs ∧ (k ds).wp (fun c => Xo X c σ H' G') q) I ⟨G, δ, R, ?_⟩) ?_
 ·exact Rs.wp.mono hw (fun _ x => x) fun d q v H' G' e i => ⟨d, G', e, i, Rs.wp.mono q (fun _ x => x.mono e) fun _ z => z⟩
 ·intro us s' ⟨vs, H', I', r, ds, G', e, i, q⟩
  exact hk ds us vs s' H' G' I' (R.mono e) r e i q
end

noncomputable def varD (i : Nat) : DS → Rs D := fun δ => match δ[i]? with
 | some (some (.v d)) => .ok d
 | _ => .bad
noncomputable def cD (d : D) : DS → Rs D := fun _ => .ok d
section
variable {X : Cx} {B G₀ : Hp}
theorem pd_of {e : Expr} {t : TE} {f : DS → Rs D} (h : PE X e t) (k : ∀ σ H G δ Q, Rel X B G₀ σ H G δ → W X Q σ H G (f δ) → t σ H Q) : PE X e (tE X B G₀ f) := by
 intro pins s σ H Q I ⟨G, δ, R, hw⟩
 exact h pins s σ H Q I (k σ H G δ Q R hw)
theorem pd_var (i : Nat) {x : Str} {pos : Pos} (hN : X.N[i]? = some x := by rfl) (hv : Vis X.env.scope x := by first | exact Or.inl rfl | exact Or.inr (Or.inl rfl) | exact Or.inr (Or.inr rfl)) (hd : (x == ("__debug__" : Str)) = false := by decide)
  (hcd : (x == ("__classdict__" : Str)) = false := by decide) : PE X (.Name x pos) (tE X B G₀ (varD i)) := by
 refine pd_of (pe_var hN hv hd hcd) fun σ H G δ Q R hw => ?_
 unfold varD at hw
 split at hw
 ·rename_i d e
  obtain ⟨v, h1, h2⟩ := R.val i d e
  exact ⟨v, h1, hw v H G (Ext.refl R.ext.gh) h2⟩
 ·exact hw.elim
theorem pd_int {i : Int} {j pos} : PE X (.Constant (.int i) j pos) (tE X B G₀ (cD (.int i))) := pd_of pe_int fun σ H G δ Q R hw => hw _ H G (Ext.refl R.ext.gh) rfl
theorem pd_bl {b : Bool} {j pos} : PE X (.Constant (.bool b) j pos) (tE X B G₀ (cD (.bl b))) := pd_of pe_bl fun σ H G δ Q R hw => hw _ H G (Ext.refl R.ext.gh) rfl
theorem pd_non {j pos} : PE X (.Constant .none j pos) (tE X B G₀ (cD .non)) := pd_of pe_non fun σ H G δ Q R hw => hw _ H G (Ext.refl R.ext.gh) rfl
theorem pd_str {x : Str} {j pos} (hx : x.length ≤ sizeLine := by decide +kernel) (ho : PyData.strOk x = true := by decide +kernel) : PE X (.Constant (.str x) j pos) (tE X B G₀ (cD (.str x))) := pd_of pe_str fun σ H G δ Q R hw => hw _ H G (Ext.refl R.ext.gh) ⟨rfl, hx, ho⟩
theorem pd_gint {x : Str} {i : Int} {t : Tok} {pos : Pos} (hm : X.mg x = some (.int i t)) (hg : Gl X x := by rfl) (hd : (x == ("__debug__" : Str)) = false := by decide) : PE X (.Name x pos) (tE X B G₀ (cD (.int i))) :=
 pd_of (pe_glob (v := .int i) hg hm ⟨t, rfl⟩ hd) fun σ H G δ Q R hw => hw _ H G (Ext.refl R.ext.gh) rfl

noncomputable def OpD (X : Cx) (f : Value → Value → Sem Value) (g : D → D → Rs D) : Prop :=
 ∀ (pins : List (Addr × Obj)) (s : Shared) (σ : St) (H G : Hp) (Q : VK) (d1 d2 : D) (x y : V) (v u : Value), Inv X pins σ H s → Same G H → RelV x v → RelV y u → Is X.K G d1 x → Is X.K G d2 y → W X Q σ H G (g d1 d2) →
  wpAny (model X.prog X.w) X.A (f v u) (EP X pins σ Q) X.xe s
theorem opD_of {f : Value → Value → Sem Value} {r : R2} {g : D → D → Rs D} (ho : OpR X f r) (h : ∀ σ H G Q d1 d2 x y, Same G H → Is X.K G d1 x → Is X.K G d2 y → W X Q σ H G (g d1 d2) → r x y H Q) : OpD X f g :=
 fun pins s σ H G Q d1 d2 x y v u I gh rx ry i1 i2 hw => ho pins s σ H x y v u Q I rx ry (h σ H G Q d1 d2 x y gh i1 i2 hw)
variable {a b c : Expr} {fa fb fc : DS → Rs D} {pos : Pos}
theorem pd_bin {op : Operator} {g : D → D → Rs D} (ho : OpD X (binaryOp op) g) (ha : PE X a (tE X B G₀ fa)) (hb : PE X b (tE X B G₀ fb)) : PE X (.BinOp a op b pos) (tE X B G₀ fun δ => fa δ >>= fun x => fb δ >>= fun y => g x y) := by
 intro pins s σ H Q I ⟨G, δ, R, hw⟩
 exact wpAny_BinOp (bindE ha I R hw fun d1 u1 v1 s1 H1 G1 I1 R1 r1 e1 i1 hw1 => bindE hb I1 R1 hw1 fun d2 u2 v2 s2 H2 G2 I2 R2 r2 e2 i2 hw2 =>
  ho pins s2 σ H2 G2 Q d1 d2 v1 v2 u1 u2 I2 R2.ext.gh r1 r2 (i1.same e2.gg) i2 (Rs.wp.mono hw2 (fun _ x => x) fun d q v H' G' e' => q v H' G' ((e1.trans e2).trans e')))
theorem pd_cmp {op : CmpOp} {g : D → D → Rs D} (ho : OpD X (compareOp op) g) (ha : PE X a (tE X B G₀ fa)) (hb : PE X b (tE X B G₀ fb)) (hm : behindInMarks op b = false := by first | exact nobehind _ (by decide) (by decide) | rfl) :
  PE X (.Compare a [op] [b] pos) (tE X B G₀ fun δ => fa δ >>= fun x => fb δ >>= fun y => g x y) := by
 intro pins s σ H Q I ⟨G, δ, R, hw⟩
 exact wpAny_Compare1 (bindE ha I R hw fun d1 u1 v1 s1 H1 G1 I1 R1 r1 e1 i1 hw1 => bindE hb I1 R1 hw1 fun d2 u2 v2 s2 H2 G2 I2 R2 r2 e2 i2 hw2 =>
  ho pins s2 σ H2 G2 Q d1 d2 v1 v2 u1 u2 I2 R2.ext.gh r1 r2 (i1.same e2.gg) i2 (Rs.wp.mono hw2 (fun _ x => x) fun d q v H' G' e' => q v H' G' ((e1.trans e2).trans e'))) hm
end
end M

set_option Elab.async false
set_option linter.all false
set_option maxRecDepth 100000
set_option maxHeartbeats 4000000
namespace M
open PySem PySem.Spec PyProof.Rows L2
set_option autoImplicit false

mutual
noncomputable def toP : D → PyData
 | .non => .none
 | .bl b => .bool b
 | .int i => .int i
 | .str x => .str x
 | .tup ds => .tuple (toPs ds)
 | .lst ds => .list (toPs ds)
 | .dct _ _ => .none
 | .dtt _ _ => .none
 | .dnn _ _ _ => .none
 | .exn _ => .none
noncomputable def toPs : List D → List PyData
 | [] => []
 | d :: ds => toP d :: toPs ds
end
mutual
noncomputable def lay : D → Bool
 | .tup ds => layL ds
 | .lst ds => layL ds
 | .dct _ _ => false
 | .dtt _ _ => false
 | .dnn _ _ _ => false
 | .exn _ => false
 | _ => true
noncomputable def layL : List D → Bool
 | [] => true
 | d :: ds => lay d && layL ds
end
section
variable {X : Cx} {pins : List (Addr × Obj)} {s : Shared} {σ : St} {H : Hp}
mutual
theorem reads_of (I : Inv X pins σ H s) : ∀ {d : D} {v : V} {u : Value}, lay d = true → RelV v u → Is X.K H d v → (∃ as, Reads s.heap u (toP d) as) ∧ (toP d).canLay0 = true
 | .non, v, u, hl, r, h => by
  cases (show v = .non from h)
  cases (show u = .none from r)
  exact ⟨⟨_, .none⟩, rfl⟩
 | .bl b, v, u, hl, r, h => by
  cases (show v = .bl b from h)
  cases (show u = .bool b from r)
  exact ⟨⟨_, .bool b⟩, rfl⟩
 | .int i, v, u, hl, r, h => by
  cases (show v = .int i from h)
  obtain ⟨t, rfl⟩ := (show ∃ t, u = .int i t from r)
  exact ⟨⟨_, .int i t⟩, rfl⟩
 | .str x, v, u, hl, r, h => by
  obtain ⟨rfl, _, h3⟩ := (show v = .str x ∧ x.length ≤ sizeLine ∧ PyData.strOk x = true from h)
  obtain ⟨t, rfl⟩ := (show ∃ t, u = .str x t from r)
  exact ⟨⟨_, .str x t⟩, h3⟩
 | .tup ds, v, u, hl, r, h => by
  obtain ⟨a, xs, rfl, h1, h2, h3⟩ := h
  cases (show u = .ref a from r)
  obtain ⟨its, rv, ⟨o, e1, e2, n, e3⟩, _⟩ := I.tuple (.of h1)
  obtain ⟨⟨as, q⟩, c⟩ := readsL_of I hl rv h3
  exact ⟨⟨_, .tuple e1 e2 e3 (by simpa using q)⟩, c⟩
 | .lst ds, v, u, hl, r, h => by
  obtain ⟨a, xs, rfl, h1, h2, h3⟩ := h
  cases (show u = .ref a from r)
  obtain ⟨its, rv, ⟨o, n, e1, e2, _, e3⟩, _⟩ := I.list h1
  obtain ⟨⟨as, q⟩, c⟩ := readsL_of I hl rv h3
  exact ⟨⟨_, .list e1 e2 e3 (by simpa using q)⟩, c⟩
 | .dct ks ds, v, u, hl, r, h => by cases hl
 | .dtt ks ds, v, u, hl, r, h => by cases hl
 | .dnn Φ ks ds, v, u, hl, r, h => by cases hl
 | .exn c, v, u, hl, r, h => by cases hl
theorem readsL_of (I : Inv X pins σ H s) : ∀ {ds : List D} {vs : List V} {us : List Value}, layL ds = true → Vals vs us → IsL X.K H ds vs → (∃ as, ReadsAll s.heap us (toPs ds) as) ∧ PyData.canLayAll0 (toPs ds) = true
 | [], vs, us, hl, r, h => by
  rw [show vs = [] from h] at r
  cases r
  exact ⟨⟨_, .nil⟩, rfl⟩
 | d :: ds, vs, us, hl, r, h => by
  obtain ⟨x, xs, rfl, h1, h2⟩ := h
  obtain ⟨l1, l2⟩ := Bool.and_eq_true_iff.mp (show (lay d && layL ds) = true from hl)
  cases r with
  | cons r1 r2 =>
   obtain ⟨⟨as, q1⟩, c1⟩ := reads_of I l1 r1 h1
   obtain ⟨⟨bs, q2⟩, c2⟩ := readsL_of I l2 r2 h2
   exact ⟨⟨_, .cons q1 q2⟩, by rw [toPs, PyData.canLayAll0, c1, c2]; rfl⟩
end
end

noncomputable def eqB (a b : D) : Bool := PyData.eqv (toP a) (toP b)
noncomputable def flat2 (a b : D) : Bool := decide (min (toP a).depth (toP b).depth ≤ 64) && (lay a && lay b)
noncomputable def eqR (a b : D) : Rs D := if flat2 a b = true then .ok (.bl (eqB a b)) else .bad
noncomputable def neR (a b : D) : Rs D := if flat2 a b = true then .ok (.bl (!eqB a b)) else .bad
noncomputable def small (i : Int) : Bool := decide (-(2 ^ 64) < i ∧ i < 2 ^ 64)
noncomputable def addR : D → D → Rs D
 | .int i, .int j => .ok (.int (i + j))
 | .str i, .str j => if i.length + j.length ≤ sizeLine then .ok (.str (i ++ j)) else .bad
 | _, _ => .bad
noncomputable def subR : D → D → Rs D
 | .int i, .int j => .ok (.int (i - j))
 | _, _ => .bad
noncomputable def mulR : D → D → Rs D
 | .int i, .int j => if (small i || small j) = true then .ok (.int (i * j)) else .bad
 | _, _ => .bad
noncomputable def fdivR : D → D → Rs D
 | .int i, .int j => if 0 < j ∧ j < 1073741824 then .ok (.int (i / j)) else .bad
 | _, _ => .bad
noncomputable def modR : D → D → Rs D
 | .int i, .int j => if 0 < j then .ok (.int (i % j)) else .bad
 | _, _ => .bad
noncomputable def powR : D → D → Rs D
 | .int i, .int j => if 0 ≤ j ∧ j ≤ 1000000 ∧ i.natAbs < 2 ^ 64 then .ok (.int (i ^ j.toNat)) else .bad
 | _, _ => .bad
noncomputable def cmpR (p : Int → Int → Bool) : D → D → Rs D
 | .int i, .int j => .ok (.bl (p i j))
 | _, _ => .bad
theorem strOk_append {a b : Str} (ha : PyData.strOk a = true) (hb : PyData.strOk b = true) : PyData.strOk (a ++ b) = true := by
 unfold PyData.strOk at *
 rw [show (a ++ b).cps = a.cps ++ b.cps from rfl, Array.all_append, ha, hb]; rfl
section
variable {X : Cx} {B G₀ : Hp}
theorem wIf {Q : VK} {σ : St} {H G : Hp} {r : Rs D} {c : Prop} [Decidable c] (h : W X Q σ H G (if c then r else .bad)) : c ∧ W X Q σ H G r := by
 split at h
 ·rename_i hc; exact ⟨hc, h⟩
 ·exact h.elim
theorem wOk {Q : VK} {σ : St} {H G : Hp} {d : D} (h : W X Q σ H G (.ok d)) (gh : Same G H) {v : V} (i : Is X.K G d v) : Q v H := h v H G (Ext.refl gh) i
theorem od_add : OpD X (binaryOp .Add) addR := by
 intro pins s σ H G Q d1 d2 x y v u I gh rx ry i1 i2 hw
 cases d1 with
 | int i =>
  cases d2 with
  | int j => exact op_add pins s σ H x y v u Q I rx ry ⟨i, j, i1, i2, wOk hw gh rfl⟩
  | _ => exact hw.elim
 | str i =>
  cases d2 with
  | str j =>
   obtain ⟨hz, hw⟩ := wIf (r := .ok (.str (i ++ j))) (c := i.length + j.length ≤ sizeLine) hw
   have hl : (i ++ j).length = i.length + j.length := by simp [Str.length, show (i ++ j).cps = i.cps ++ j.cps from rfl]
   exact op_add_str pins s σ H x y v u Q I rx ry ⟨i, j, i1.1, i2.1, hz, wOk hw gh ⟨rfl, by rw [hl]; exact hz, strOk_append i1.2.2 i2.2.2⟩⟩
  | _ => exact hw.elim
 | _ => cases d2 <;> exact hw.elim
theorem od_sub : OpD X (binaryOp .Sub) subR := opD_of op_sub fun σ H G Q d1 d2 x y gh i1 i2 hw => by
 cases d1 <;> cases d2 <;> first | exact hw.elim | exact ⟨_, _, i1, i2, wOk hw gh rfl⟩
theorem od_mul : OpD X (binaryOp .Mult) mulR := opD_of op_mul fun σ H G Q d1 d2 x y gh i1 i2 hw => by
 cases d1 with
 | int i =>
  cases d2 with
  | int j =>
   obtain ⟨h, hw⟩ := wIf (r := .ok (.int (i * j))) (c := (small i || small j) = true) hw
   refine ⟨i, j, i1, i2, ?_, wOk hw gh rfl⟩
   rw [Bool.or_eq_true] at h
   rcases h with h | h
   ·exact .inl (of_decide_eq_true h)
   ·exact .inr (of_decide_eq_true h)
  | _ => exact hw.elim
 | _ => cases d2 <;> exact hw.elim
theorem od_fdiv : OpD X (binaryOp .FloorDiv) fdivR := opD_of op_fdiv fun σ H G Q d1 d2 x y gh i1 i2 hw => by
 cases d1 with
 | int i =>
  cases d2 with
  | int j =>
   obtain ⟨h, hw⟩ := wIf (r := .ok (.int (i / j))) (c := 0 < j ∧ j < 1073741824) hw
   exact ⟨i, j, i1, i2, h, wOk hw gh rfl⟩
  | _ => exact hw.elim
 | _ => cases d2 <;> exact hw.elim
theorem od_mod : OpD X (binaryOp .Mod) modR := opD_of op_mod fun σ H G Q d1 d2 x y gh i1 i2 hw => by
 cases d1 with
 | int i =>
  cases d2 with
  | int j =>
   obtain ⟨h, hw⟩ := wIf (r := .ok (.int (i % j))) (c := 0 < j) hw
   exact ⟨i, j, i1, i2, h, wOk hw gh rfl⟩
  | _ => exact hw.elim
 | _ => cases d2 <;> exact hw.elim
theorem od_pow : OpD X (binaryOp .Pow) powR := opD_of op_pow fun σ H G Q d1 d2 x y gh i1 i2 hw => by
 cases d1 with
 | int i =>
  cases d2 with
  | int j =>
   obtain ⟨h, hw⟩ := wIf (r := .ok (.int (i ^ j.toNat))) (c := 0 ≤ j ∧ j ≤ 1000000 ∧ i.natAbs < 2 ^ 64) hw
   exact ⟨i, j, i1, i2, h, wOk hw gh rfl⟩
  | _ => exact hw.elim
 | _ => cases d2 <;> exact hw.elim
theorem od_cmp {op : CmpOp} {p : Int → Int → Bool} (ho : OpR X (compareOp op) (rI0 fun i j => .bl (p i j))) : OpD X (compareOp op) (cmpR p) := opD_of ho fun σ H G Q d1 d2 x y gh i1 i2 hw => by
 cases d1 <;> cases d2 <;> first | exact hw.elim | exact ⟨_, _, i1, i2, wOk hw gh rfl⟩
theorem od_lt : OpD X (compareOp .Lt) (cmpR fun i j => decide (i < j)) := od_cmp op_lt
theorem od_le : OpD X (compareOp .LtE) (cmpR fun i j => decide (i ≤ j)) := od_cmp op_le
theorem od_gt : OpD X (compareOp .Gt) (cmpR fun i j => decide (j < i)) := od_cmp op_gt
theorem od_ge : OpD X (compareOp .GtE) (cmpR fun i j => decide (j ≤ i)) := od_cmp op_ge
theorem od_eq (hu : X.A.units + 64 < cLine) : OpD X (compareOp .Eq) eqR := by
 intro pins s σ H G Q d1 d2 x y v u I gh rx ry i1 i2 hw
 unfold eqR at hw
 split at hw
 ·rename_i h
  obtain ⟨h, l12⟩ := Bool.and_eq_true_iff.mp h
  obtain ⟨l1, l2⟩ := Bool.and_eq_true_iff.mp l12
  obtain ⟨⟨as, r1⟩, c1⟩ := reads_of I l1 rx (i1.same gh)
  obtain ⟨⟨bs, r2⟩, c2⟩ := reads_of I l2 ry (i2.same gh)
  have h' : min (toP d1).depth (toP d2).depth ≤ 64 := of_decide_eq_true h
  exact SeqAt.compareEq_reads r1 r2 c1 c2 (by omega) ⟨.bl _, H, I, rfl, wOk hw gh rfl⟩
 ·exact hw.elim
theorem od_ne (hu : X.A.units + 64 < cLine) : OpD X (compareOp .NotEq) neR := by
 intro pins s σ H G Q d1 d2 x y v u I gh rx ry i1 i2 hw
 unfold neR at hw
 split at hw
 ·rename_i h
  obtain ⟨h, l12⟩ := Bool.and_eq_true_iff.mp h
  obtain ⟨l1, l2⟩ := Bool.and_eq_true_iff.mp l12
  obtain ⟨⟨as, r1⟩, c1⟩ := reads_of I l1 rx (i1.same gh)
  obtain ⟨⟨bs, r2⟩, c2⟩ := reads_of I l2 ry (i2.same gh)
  have h' : min (toP d1).depth (toP d2).depth ≤ 64 := of_decide_eq_true h
  exact SeqAt.compareNe_reads r1 r2 c1 c2 (by omega) ⟨.bl _, H, I, rfl, wOk hw gh rfl⟩
 ·exact hw.elim
end

noncomputable def truB : D → Bool
 | .non => false
 | .bl b => b
 | .int i => i != 0
 | .str x => (x.length : Int) != 0
 | .tup ds => !ds.isEmpty
 | .lst ds => !ds.isEmpty
 | .dct _ _ => false
 | .dtt _ _ => false
 | .dnn _ _ _ => false
 | .exn _ => false
noncomputable def truR : D → Rs Bool
 | .dct _ _ => .bad
 | .dtt _ _ => .bad
 | .dnn _ _ _ => .bad
 | .exn _ => .bad
 | d => .ok (truB d)
theorem truR_ok {d : D} {b : Bool} (h : truR d = .ok b) : b = truB d ∧ (∀ ks ds, d ≠ .dct ks ds) ∧ ∀ ks ds, d ≠ .dtt ks ds := by
 cases d <;> first | (cases h; exact ⟨rfl, fun _ _ z => (nomatch z), fun _ _ z => (nomatch z)⟩) | cases h
theorem truR_ne {d : D} {c : Str} : truR d ≠ .exc c := by cases d <;> (intro h; cases h)
section
variable {X : Cx} {B G₀ : Hp} {a b c : Expr} {fa fb fc : DS → Rs D} {ga gb : DS → Rs Bool} {pos : Pos} {rest : List Expr}
theorem IsL.empty {K : PySem.W.Frag} {G : Hp} {ds : List D} {xs : List V} (h : IsL K G ds xs) : xs.isEmpty = ds.isEmpty := by
 have := h.length
 cases xs <;> cases ds <;> simp_all
theorem tru_of {K : PySem.W.Frag} {H : Hp} {d : D} {v : V} {b : Bool} (hb : truR d = .ok b) (h : Is K H d v) : TruV K v H b := by
 obtain ⟨rfl, _, _⟩ := truR_ok hb
 cases d with
 | non => cases (show v = .non from h); rfl
 | bl b => cases (show v = .bl b from h); rfl
 | int i => cases (show v = .int i from h); rfl
 | str x => obtain ⟨rfl, h2, _⟩ := h; exact ⟨h2, rfl⟩
 | tup ds => obtain ⟨a, xs, rfl, h1, _, h3⟩ := h; exact .inr (.inl ⟨xs, .of h1, by rw [h3.empty]; rfl⟩)
 | lst ds => obtain ⟨a, xs, rfl, h1, _, h3⟩ := h; exact .inl ⟨xs, h1, by rw [h3.empty]; rfl⟩
 | dct ks ds => cases hb
 | dtt ks ds => cases hb
 | dnn Φ ks ds => cases hb
 | exn c => cases hb
theorem tru_then {X : Cx} {B G₀ : Hp} {pins : List (Addr × Obj)} {s : Shared} {σ : St} {H G : Hp} {δ : DS} {α : Type} {d : D} {v : V} {u : Value} {k : Bool → Rs α} {q : α → Prop} {Post : Bool → Shared → Prop} (I : Inv X pins σ H s) (R : Rel X B G₀ σ H G δ) (r : RelV v u) (i : Is X.K G d v)
  (hw : (truR d >>= k).wp (fun c => Xo X c σ H G) q) (hk : ∀ b s', Inv X pins σ H s' → (k b).wp (fun c => Xo X c σ H G) q → Post b s') : wpAny (model X.prog X.w) X.A (truthy u) Post X.xe s := by
 cases hb : truR d with
 | ok b =>
  rw [hb] at hw
  refine thn (tru_ok pins s σ H v u (fun k H' => k = b ∧ H' = H) I r ⟨_, tru_of hb (i.same R.ext.gh), rfl, rfl⟩) fun k' s2 ⟨H2, I2, hk', hH⟩ => ?_
  subst hk'; subst hH
  exact hk _ s2 I2 hw
 | exc c => exact (truR_ne hb).elim
 | bad => rw [hb] at hw; exact hw.elim
theorem bind_ok' {α : Type} (r : Rs α) : (r >>= fun b => Rs.ok b) = r := by cases r <;> rfl
theorem pdt_val (ha : PE X a (tE X B G₀ fa)) (he : ∀ whole, isTrue a X.env whole = (do let v ← whole; standAt a.pos; holding [v] (truthy v)) := by intro _; rfl) : PT X a (tT X B G₀ fun δ => fa δ >>= fun d => truR d) := by
 intro pins s σ H Q I ⟨G, δ, R, hw⟩
 refine isTrue_plain (bindE ha I R hw fun d u v s1 H1 G1 I1 R1 r1 e1 i1 hw1 => ?_) (he _)
 rw [← bind_ok' (truR d)] at hw1
 exact tru_then I1 R1 r1 i1 hw1 fun b s' I' q => ⟨H1, I', q H1 G1 e1⟩
theorem pdt_cmp {op : CmpOp} {g : D → D → Rs D} (ho : OpD X (compareOp op) g) (ha : PE X a (tE X B G₀ fa)) (hb : PE X b (tE X B G₀ fb)) (hm : behindInMarks op b = false := by first | exact nobehind _ (by decide) (by decide) | rfl) :
  PT X (.Compare a [op] [b] pos) (tT X B G₀ fun δ => fa δ >>= fun x => fb δ >>= fun y => g x y >>= fun d => truR d) := by
 intro pins s σ H Q I ⟨G, δ, R, hw⟩
 refine wpAny_isTrue_Compare1 (bindE ha I R hw fun d1 u1 v1 s1 H1 G1 I1 R1 r1 e1 i1 hw1 => bindE hb I1 R1 hw1 fun d2 u2 v2 s2 H2 G2 I2 R2 r2 e2 i2 hw2 => ?_) hm
 rw [wp_bind] at hw2
 refine thn (ho pins s2 σ H2 G2 (fun v H' => ∃ d G', Ext H2 G2 H' G' ∧ Is X.K G' d v ∧ (truR d).wp (fun c => Xo X c σ H' G') fun b => ∀ H' G', Ext H G H' G' → Q b H') d1 d2 v1 v2 u1 u2 I2 R2.ext.gh r1 r2 (i1.same e2.gg) i2
  (Rs.wp.mono hw2 (fun _ x => x) fun d q v H' G' e' i' => ⟨d, G', e', i', Rs.wp.mono q (fun _ x => x.mono e') fun _ z => z⟩)) fun u3 s3 ⟨v3, H3, I3, r3, d, G3, e3, i3, q⟩ => ?_
 rw [← bind_ok' (truR d)] at q
 exact tru_then I3 (R2.mono e3) r3 i3 q fun b s' I' q' => ⟨H3, I', q' H3 G3 ((e1.trans e2).trans e3)⟩
theorem pdt_not (ha : PT X a (tT X B G₀ ga)) : PT X (.UnaryOp .Not a pos) (tT X B G₀ fun δ => ga δ >>= fun b => .ok (!b)) := by
 intro pins s σ H Q I ⟨G, δ, R, hw⟩
 exact isTrue_not (bindT ha I R hw fun b s1 H1 G1 I1 R1 e1 hw1 => ⟨H1, I1, hw1 H1 G1 e1⟩)
theorem pw_one {op : BoolOp} (h : op = .And ∨ op = .Or) (ha : PT X a (tT X B G₀ ga)) : PW X (.BoolOp op [a] pos) (tT X B G₀ ga) := by
 rcases h with rfl | rfl
 ·exact pw_and1 ha
 ·exact pw_or1 ha
theorem pdw_or (ha : PT X a (tT X B G₀ ga)) (hb : PW X (.BoolOp .Or (b :: rest) pos) (tT X B G₀ gb)) : PW X (.BoolOp .Or (a :: b :: rest) pos) (tT X B G₀ fun δ => ga δ >>= fun c => if c = true then .ok true else gb δ) := by
 intro wh pins s σ H Q I ⟨G, δ, R, hw⟩
 refine isTrue_or (bindT ha I R hw fun c s1 H1 G1 I1 R1 e1 hw1 => ?_)
 cases c with
 | true => exact ⟨H1, I1, hw1 H1 G1 e1⟩
 | false => exact hb wh pins s1 σ H1 Q I1 ⟨G1, δ, R1, Rs.wp.mono hw1 (fun _ x => x) fun b q H' G' e' => q H' G' (e1.trans e')⟩
theorem pd_one {op : BoolOp} (ha : PE X a (tE X B G₀ fa)) : PE X (.BoolOp op [a] pos) (tE X B G₀ fa) := pe_one ha
theorem pd_and (ha : PE X a (tE X B G₀ fa)) (hb : PE X (.BoolOp .And (b :: rest) pos) (tE X B G₀ fb)) : PE X (.BoolOp .And (a :: b :: rest) pos) (tE X B G₀ fun δ => fa δ >>= fun x => truR x >>= fun k => if k = true then fb δ else .ok x) := by
 intro pins s σ H Q I ⟨G, δ, R, hw⟩
 refine BoolOp_and (bindE ha I R hw fun d u v s1 H1 G1 I1 R1 r1 e1 i1 hw1 => ?_)
 refine tru_then I1 R1 r1 i1 hw1 fun k s2 I2 hw2 => ?_
 cases k with
 | true => exact hb pins s2 σ _ Q I2 ⟨G1, δ, R1, Rs.wp.mono hw2 (fun _ x => x) fun d q v H' G' e' => q v H' G' (e1.trans e')⟩
 | false => exact ⟨v, _, I2, r1, hw2 v _ G1 e1 i1⟩
theorem pd_not (ha : PE X a (tE X B G₀ fa)) : PE X (.UnaryOp .Not a pos) (tE X B G₀ fun δ => fa δ >>= fun x => truR x >>= fun k => .ok (.bl (!k))) := by
 intro pins s σ H Q I ⟨G, δ, R, hw⟩
 refine UnaryOp_ (bindE ha I R hw fun d u v s1 H1 G1 I1 R1 r1 e1 i1 hw1 => ?_)
 refine not_of (tru_then I1 R1 r1 i1 hw1 fun k s2 I2 hw2 => ?_)
 exact ⟨.bl _, _, I2, rfl, hw2 _ _ G1 e1 rfl⟩
theorem pd_neg (ha : PE X a (tE X B G₀ fa)) : PE X (.UnaryOp .USub a pos) (tE X B G₀ fun δ => fa δ >>= fun x => match x with | .int i => .ok (.int (-i)) | _ => .bad) := by
 intro pins s σ H Q I ⟨G, δ, R, hw⟩
 refine UnaryOp_ (bindE ha I R hw fun d u v s1 H1 G1 I1 R1 r1 e1 i1 hw1 => ?_)
 cases d with
 | int i => exact un_neg pins s1 σ H1 v u Q I1 r1 ⟨i, i1, hw1 _ H1 G1 e1 rfl⟩
 | _ => exact hw1.elim
theorem pd_chain {op op' : CmpOp} {g g' : D → D → Rs D} (ho : OpD X (compareOp op) g) (ho' : OpD X (compareOp op') g') (ha : PE X a (tE X B G₀ fa)) (hb : PE X b (tE X B G₀ fb)) (hc : PE X c (tE X B G₀ fc))
  (hm : lastMarks [op, op'] [b, c] = false := by with_unfolding_all rfl) : PE X (.Compare a [op, op'] [b, c] pos) (tE X B G₀ fun δ => fa δ >>= fun x => fb δ >>= fun y => g x y >>= fun z => match z with
   | .bl true => fc δ >>= fun w => g' y w
   | .bl false => .ok (.bl false)
   | _ => .bad) := by
 intro pins s σ H Q I ⟨G, δ, R, hw⟩
 refine Compare_chain (bindE ha I R hw fun d1 u1 v1 s1 H1 G1 I1 R1 r1 e1 i1 hw1 => chain_link (bindE hb I1 R1 hw1 fun d2 u2 v2 s2 H2 G2 I2 R2 r2 e2 i2 hw2 => ?_)) hm
 rw [wp_bind] at hw2
 refine thn (ho pins s2 σ H2 G2 (fun v H' => ∃ d G', Ext H2 G2 H' G' ∧ Is X.K G' d v ∧ (match d with
   | .bl true => fc δ >>= fun w => g' d2 w
   | .bl false => .ok (.bl false)
   | _ => .bad : Rs D).wp (fun c => Xo X c σ H' G') fun d => ∀ v H' G', Ext H G H' G' → Is X.K G' d v → Q v H') d1 d2 v1 v2 u1 u2 I2 R2.ext.gh r1 r2 (i1.same e2.gg) i2
  (Rs.wp.mono hw2 (fun _ x => x) fun d q v H' G' e' i' => ⟨d, G', e', i', Rs.wp.mono q (fun _ x => x.mono e') fun _ z => z⟩)) fun u3 s3 ⟨v3, H3, I3, r3, d, G3, e3, i3, q⟩ => ?_
 cases d with
 | bl k =>
  cases (show v3 = .bl k from i3)
  cases (show u3 = .bool k from r3)
  refine wpAny_truthy_bool ?_
  have R3 := R2.mono e3
  cases k with
  | false => exact ite_ff ⟨.bl false, H3, I3, rfl, q _ H3 G3 ((e1.trans e2).trans e3) rfl⟩
  | true =>
   refine ite_tt (chain_last (bindE hc I3 R3 q fun d4 u4 v4 s4 H4 G4 I4 R4 r4 e4 i4 hw4 => ?_))
   exact ho' pins s4 σ H4 G4 Q d2 d4 v2 v4 u2 u4 I4 R4.ext.gh r2 r4 (i2.same (e3.trans e4).gg) i4 (Rs.wp.mono hw4 (fun _ x => x) fun d q v H' G' e' => q v H' G' (((e1.trans e2).trans (e3.trans e4)).trans e'))
 | _ => exact q.elim
end
end M

set_option Elab.async false
set_option linter.all false
set_option maxRecDepth 100000
set_option maxHeartbeats 4000000
namespace M
open PySem PySem.Spec PyProof.Rows L2
set_option autoImplicit false
theorem thousand : 1000 ≤ sizeLine := by decide

section
variable {X : Cx} {B G₀ : Hp} {a b e o : Expr} {es : List Expr} {fa fb fe fo : DS → Rs D} {fr : DS → Rs (List D)} {pos : Pos}
theorem wmono {Q : VK} {σ : St} {H G H1 G1 : Hp} {r : Rs D} (h : r.wp (fun c => Xo X c σ H1 G1) fun d => ∀ v H' G', Ext H G H' G' → Is X.K G' d v → Q v H') (e : Ext H G H1 G1) : W X Q σ H1 G1 r :=
 Rs.wp.mono h (fun _ x => x) fun d q v H' G' e' => q v H' G' (e.trans e')
theorem pda_nil : PA X [] (tAs X B G₀ fun _ => .ok []) := fun pos pins s σ H Q I ⟨G, δ, R, hw⟩ => Calls.spliced_nil ⟨[], H, I, .nil, hw [] H G (Ext.refl R.ext.gh) rfl⟩
theorem pda_cons (ha : PE X e (tE X B G₀ fe)) (hr : PA X es (tAs X B G₀ fr)) (hs : starEach (e :: es) X.env = (false, eval e X.env) :: starEach es X.env := by rfl) :
  PA X (e :: es) (tAs X B G₀ fun δ => fe δ >>= fun d => fr δ >>= fun ds => .ok (d :: ds)) := by
 intro pos pins s σ H Q I ⟨G, δ, R, hw⟩
 rw [hs]
 show wpAny _ _ (spliced ((false, eval e X.env) :: backTo pos (starEach es X.env))) _ _ s
 refine Calls.spliced_cons (bindE ha I R hw fun d u v s1 H1 G1 I1 R1 r1 e1 i1 hw1 => ?_)
 exact bindA hr I1 R1 hw1 fun ds us vs s2 H2 G2 I2 R2 r2 e2 i2 hw2 => ⟨v :: vs, H2, I2, .cons r1 r2, hw2 _ H2 G2 (e1.trans e2) (.cons (i1.same e2.gg) i2)⟩
noncomputable def tupR (ds : List D) : Rs D := if ds.length ≤ 1000 then .ok (.tup ds) else .bad
noncomputable def lstR (ds : List D) : Rs D := if ds.length ≤ 1000 then .ok (.lst ds) else .bad
theorem pd_tup {x1} (h : PA X es (tAs X B G₀ fr)) : PE X (.Tuple es x1 pos) (tE X B G₀ fun δ => fr δ >>= tupR) := by
 refine pd_of (pe_tup h) fun σ H G δ Q R hw => ?_
 refine ⟨G, δ, R, ?_⟩
 unfold W at hw
 rw [wp_bind] at hw
 refine Rs.wp.mono hw (fun _ x => x) fun ds q vs H1 G1 e1 i1 => ?_
 unfold tupR at q
 split at q
 ·rename_i hl
  have hl' := i1.length
  have hz : vs.length ≤ sizeLine := Nat.le_trans (by omega) thousand
  refine ⟨hz, fun p hp => q (.ref p) _ (upd G1 p (.tup vs)) (e1.trans (Ext.laid e1.gh hp)) ⟨p, vs, rfl, upd_same, hz, i1.same (same_upd (e1.gh.free hp) _)⟩⟩
 ·exact q.elim
theorem pd_lst (h : PA X es (tAs X B G₀ fr)) : PE X (.List es pos) (tE X B G₀ fun δ => fr δ >>= lstR) := by
 refine pd_of (pe_lst h) fun σ H G δ Q R hw => ?_
 refine ⟨G, δ, R, ?_⟩
 unfold W at hw
 rw [wp_bind] at hw
 refine Rs.wp.mono hw (fun _ x => x) fun ds q vs H1 G1 e1 i1 => ?_
 unfold lstR at q
 split at q
 ·rename_i hl
  have hl' := i1.length
  have hz : vs.length ≤ sizeLine := Nat.le_trans (by omega) thousand
  refine ⟨hz, fun p hp => q (.ref p) _ (upd G1 p (.lst vs)) (e1.trans (Ext.laid e1.gh hp)) ⟨p, vs, rfl, .of upd_same, hz, i1.same (same_upd (e1.gh.free hp) _)⟩⟩
 ·exact q.elim
noncomputable def chr1 (c : Nat) : Str := ⟨#[c]⟩
noncomputable def idxR : D → D → Rs D
 | .str z, .int i => match atI z.cps.toList i with | some c => .ok (.str (chr1 c)) | none => .bad
 | .tup ds, .int i => match atI ds i with | some d => .ok d | none => .bad
 | .lst ds, .int i => match atI ds i with | some d => .ok d | none => .bad
 | _, _ => .bad
theorem IsL.atI {K : PySem.W.Frag} {G : Hp} {ds : List D} {xs : List V} {i : Int} {d : D} (h : IsL K G ds xs) (e : atI ds i = some d) : ∃ x, L2.atI xs i = some x ∧ Is K G d x := by
 unfold L2.atI at e ⊢
 rw [h.length]
 cases q : ixN ds.length i with
 | none => rw [q] at e; cases e
 | some j =>
  rw [q] at e
  exact h.get e
theorem strOk_at {z : Str} {i : Int} {c : Nat} (h : PyData.strOk z = true) (e : atI z.cps.toList i = some c) : PyData.strOk (chr1 c) = true := by
 unfold L2.atI at e
 cases q : ixN z.cps.toList.length i with
 | none => rw [q] at e; cases e
 | some j =>
  rw [q] at e
  have e' : z.cps.toList[j]? = some c := e
  have hm : c ∈ z.cps := by
   have := List.mem_of_getElem? e'
   simpa using this
  unfold PyData.strOk at h ⊢
  have := Array.all_eq_true_iff_forall_mem.mp h c hm
  simpa [chr1] using this
theorem pd_ix (ha : PE X a (tE X B G₀ fa)) (hb : PE X b (tE X B G₀ fb)) (hs : PlainIx b := by intro _ _; rfl) : PE X (.Subscript a b pos) (tE X B G₀ fun δ => fa δ >>= fun x => fb δ >>= fun y => idxR x y) := by
 intro pins s σ H Q I ⟨G, δ, R, hw⟩
 refine Subscript_ (bindE ha I R hw fun d1 u1 v1 s1 H1 G1 I1 R1 r1 e1 i1 hw1 => bindE hb I1 R1 hw1 fun d2 u2 v2 s2 H2 G2 I2 R2 r2 e2 i2 hw2 => ?_)
 have hw2 := wmono hw2 (e1.trans e2)
 have i1 := i1.same e2.gg
 refine ix_seq a b pins s2 σ H2 v1 v2 u1 u2 Q I2 r1 r2 ?_ (hs _ _)
 cases d1 with
 | str z =>
  cases d2 with
  | int i =>
   obtain ⟨rfl, h2, h3⟩ := i1
   cases q : atI z.cps.toList i with
   | none =>
    have : W X Q σ H2 G2 (match atI z.cps.toList i with | some c => .ok (.str (chr1 c)) | none => .bad) := hw2
    rw [q] at this; exact this.elim
   | some c =>
    have w : W X Q σ H2 G2 (match atI z.cps.toList i with | some c => .ok (.str (chr1 c)) | none => .bad) := hw2
    rw [q] at w
    exact .inr (.inr ⟨z, i, c, rfl, i2, h2, q, wOk w R2.ext.gh ⟨rfl, (by show 1 ≤ sizeLine; decide), strOk_at h3 q⟩⟩)
  | _ => exact hw2.elim
 | tup ds =>
  cases d2 with
  | int i =>
   obtain ⟨p, xs, rfl, h1, h2, h3⟩ := i1
   cases q : atI ds i with
   | none =>
    have : W X Q σ H2 G2 (match atI ds i with | some d => .ok d | none => .bad) := hw2
    rw [q] at this; exact this.elim
   | some d =>
    have w : W X Q σ H2 G2 (match atI ds i with | some d => .ok d | none => .bad) := hw2
    rw [q] at w
    obtain ⟨x, e, hx⟩ := h3.atI q
    exact .inr (.inl ⟨p, xs, i, x, rfl, i2, SqT.same R2.ext.gh h1, e, wOk w R2.ext.gh hx⟩)
  | _ => exact hw2.elim
 | lst ds =>
  cases d2 with
  | int i =>
   obtain ⟨p, xs, rfl, h1, h2, h3⟩ := i1
   cases q : atI ds i with
   | none =>
    have : W X Q σ H2 G2 (match atI ds i with | some d => .ok d | none => .bad) := hw2
    rw [q] at this; exact this.elim
   | some d =>
    have w : W X Q σ H2 G2 (match atI ds i with | some d => .ok d | none => .bad) := hw2
    rw [q] at w
    obtain ⟨x, e, hx⟩ := h3.atI q
    exact .inl ⟨p, xs, i, x, rfl, i2, R2.ext.gh.seq h1, e, wOk w R2.ext.gh hx⟩
  | _ => exact hw2.elim
 | _ => cases d2 <;> exact hw2.elim
noncomputable def CallD (X : Cx) (f : Value) (g : List D → Rs D) : Prop :=
 ∀ (pins : List (Addr × Obj)) (s : Shared) (σ : St) (H G : Hp) (Q : VK) (ds : List D) (vs : List V) (us : List Value), Inv X pins σ H s → Same G H → Vals vs us → IsL X.K G ds vs → W X Q σ H G (g ds) →
  wpAny (model X.prog X.w) X.A (call f us) (EP X pins σ Q) X.xe s
variable {x : Str} {p : Pos} {id T : String} {g : List D → Rs D}
theorem pd_callB (hc : CallD X (.builtin id) g) (hm : X.mg x = none) (hv : bootBuiltins x = some (.builtin id)) (ha : PA X (e :: es) (tAs X B G₀ fr)) (hg : Gl X x := by rfl) (hn : x ≠ "__name__" := by decide) (hdb : (x == ("__debug__" : Str)) = false := by decide)
  (he : starEach (e :: es) X.env = (false, eval e X.env) :: starEach es X.env := by rfl) (hpl : (backTo pos (starEach es X.env)).any (·.1) = false := by rfl) : PE X (.Call (.Name x p) (e :: es) [] pos) (tE X B G₀ fun δ => fr δ >>= g) := by
 intro pins s σ H Q I ⟨G, δ, R, hw⟩
 refine wpAny_Call_Name_kw (ld_blt I hg hm hv ?_ hn hdb)
 exact PyProof.Rows.callWith_builtin1 (bindA ha I R hw fun ds us vs s1 H1 G1 I1 R1 r1 e1 i1 hw1 => hc pins s1 σ H1 G1 Q ds vs us I1 R1.ext.gh r1 i1 (wmono hw1 e1)) he hpl
theorem pd_callTy (hc : CallD X (.type T) g) (hm : X.mg x = none) (hv : bootBuiltins x = some (.type T)) (ha : PA X (e :: es) (tAs X B G₀ fr)) (hg : Gl X x := by rfl) (hn : x ≠ "__name__" := by decide) (hdb : (x == ("__debug__" : Str)) = false := by decide)
  (he : starEach (e :: es) X.env = (false, eval e X.env) :: starEach es X.env := by rfl) (hpl : (backTo pos (starEach es X.env)).any (·.1) = false := by rfl) : PE X (.Call (.Name x p) (e :: es) [] pos) (tE X B G₀ fun δ => fr δ >>= g) := by
 intro pins s σ H Q I ⟨G, δ, R, hw⟩
 refine wpAny_Call_Name_kw (ld_blt I hg hm hv ?_ hn hdb)
 exact PyProof.Rows.callWith_type1 (bindA ha I R hw fun ds us vs s1 H1 G1 I1 R1 r1 e1 i1 hw1 => hc pins s1 σ H1 G1 Q ds vs us I1 R1.ext.gh r1 i1 (wmono hw1 e1)) he hpl
theorem callD_of {f : Value} {r : List V → Hp → VK → Prop} (hc : CallR X f r) (h : ∀ σ H G Q ds vs, Same G H → IsL X.K G ds vs → W X Q σ H G (g ds) → r vs H Q) : CallD X f g :=
 fun pins s σ H G Q ds vs us I gh r i hw => hc pins s σ H vs us Q I r (h σ H G Q ds vs gh i hw)
noncomputable def lenR : List D → Rs D
 | [.str z] => .ok (.int z.length)
 | [.tup ds] => .ok (.int ds.length)
 | [.lst ds] => .ok (.int ds.length)
 | _ => .bad
theorem isL1 {K : PySem.W.Frag} {G : Hp} {d : D} {vs : List V} (h : IsL K G [d] vs) : ∃ v, vs = [v] ∧ Is K G d v := by
 obtain ⟨v, r, rfl, h1, h2⟩ := h
 rw [show r = [] from h2]
 exact ⟨v, rfl, h1⟩
theorem isL2 {K : PySem.W.Frag} {G : Hp} {d e : D} {vs : List V} (h : IsL K G [d, e] vs) : ∃ v w, vs = [v, w] ∧ Is K G d v ∧ Is K G e w := by
 obtain ⟨v, r, rfl, h1, h2⟩ := h
 obtain ⟨w, rfl, h3⟩ := isL1 h2
 exact ⟨v, w, rfl, h1, h3⟩
theorem cd_len : CallD X (.builtin "len") lenR := callD_of call_len fun σ H G Q ds vs gh i hw => by
 cases ds with
 | nil => exact hw.elim
 | cons d r =>
  cases r with
  | cons _ _ => cases d <;> exact hw.elim
  | nil =>
   cases d with
   | str z =>
    obtain ⟨v, rfl, h⟩ := isL1 i
    obtain ⟨rfl, h2, _⟩ := h
    exact ⟨_, _, rfl, ⟨h2, rfl⟩, wOk hw gh rfl⟩
   | tup ds =>
    obtain ⟨v, rfl, h⟩ := isL1 i
    obtain ⟨a, xs, rfl, h1, h2, h3⟩ := h
    exact ⟨_, _, rfl, .inr ⟨xs, SqT.same gh h1, rfl⟩, by rw [h3.length]; exact wOk hw gh rfl⟩
   | lst ds =>
    obtain ⟨v, rfl, h⟩ := isL1 i
    obtain ⟨a, xs, rfl, h1, h2, h3⟩ := h
    exact ⟨_, _, rfl, .inl ⟨xs, gh.seq h1, rfl⟩, by rw [h3.length]; exact wOk hw gh rfl⟩
   | _ => exact hw.elim
noncomputable def ordR : List D → Rs D
 | [.str z] => if z.length = 1 then .ok (.int (z.cps.getD 0 0 : Nat)) else .bad
 | _ => .bad
theorem cd_ord : CallD X (.builtin "ord") ordR := callD_of call_ord fun σ H G Q ds vs gh i hw => by
 cases ds with
 | nil => exact hw.elim
 | cons d r =>
  cases r with
  | cons _ _ => cases d <;> exact hw.elim
  | nil =>
   cases d with
   | str z =>
    obtain ⟨v, rfl, h⟩ := isL1 i
    obtain ⟨rfl, h2, _⟩ := h
    obtain ⟨hz, hw⟩ := wIf (r := .ok (.int (z.cps.getD 0 0 : Nat))) (c := z.length = 1) hw
    exact ⟨_, rfl, hz, wOk hw gh rfl⟩
   | _ => exact hw.elim
noncomputable def intR : List D → Rs D
 | [.int i] => .ok (.int i)
 | [.bl b] => .ok (.int (if b then 1 else 0))
 | _ => .bad
theorem cd_int : CallD X (.type "int") intR := callD_of call_int1 fun σ H G Q ds vs gh i hw => by
 cases ds with
 | nil => exact hw.elim
 | cons d r =>
  cases r with
  | cons _ _ => cases d <;> exact hw.elim
  | nil =>
   cases d with
   | int z =>
    obtain ⟨v, rfl, h⟩ := isL1 i
    cases (show v = .int z from h)
    exact .inl ⟨_, rfl, wOk hw gh rfl⟩
   | bl b =>
    obtain ⟨v, rfl, h⟩ := isL1 i
    cases (show v = .bl b from h)
    exact .inr ⟨_, rfl, wOk hw gh rfl⟩
   | _ => exact hw.elim
noncomputable def minR : List D → Rs D
 | [.int i, .int j] => .ok (.int (if j < i then j else i))
 | _ => .bad
theorem minR_inv {ds : List D} {Q : VK} {σ : St} {H G : Hp} (hw : W X Q σ H G (minR ds)) : ∃ i j, ds = [.int i, .int j] := by
 unfold minR at hw
 split at hw
 ·exact ⟨_, _, rfl⟩
 ·exact hw.elim
theorem cd_min (hc : X.calm = true) : CallD X (.builtin "min") minR := callD_of (call_min2 hc) fun σ H G Q ds vs gh i hw => by
 obtain ⟨a, b, rfl⟩ := minR_inv hw
 obtain ⟨v, w, rfl, h1, h2⟩ := isL2 i
 cases (show v = .int a from h1)
 cases (show w = .int b from h2)
 exact ⟨_, _, rfl, wOk hw gh rfl⟩
noncomputable def tyN : D → String
 | .non => "NoneType"
 | .bl _ => "bool"
 | .int _ => "int"
 | .str _ => "str"
 | .tup _ => "tuple"
 | .lst _ => "list"
 | .dct _ _ => "dict"
 | .dtt _ _ => "dict"
 | .dnn _ _ _ => ""
 | .exn _ => ""
noncomputable def isiN (t T : String) : Bool := t == T || (t == "bool" && T == "int")
noncomputable def noX : D → Bool
 | .dnn _ _ _ => false
 | .exn _ => false
 | _ => true
noncomputable def isiR (T : String) (d : D) : Rs D := if noX d = true then .ok (.bl (isiN (tyN d) T)) else .bad
noncomputable def IsiOk (K : PySem.W.Frag) (T : String) : Prop := ∀ d : D, noX d = true → PySem.W.kitOne K (.type (tyN d)) (.type T) = some (isiN (tyN d) T)
theorem isi_any {X : Cx} {A : Around} {E : Value → Shared → Prop} {pins : List (Addr × Obj)} {s : Shared} {σ : St} {H : Hp} {d : D} {v : V} {u : Value} {T : String} {Q : Value → Shared → Prop} (I : Inv X pins σ H s) (r : RelV v u) (i : Is X.K H d v) (hT : IsiOk X.K T) (hno : noX d = true)
  (h : ∀ tk, Q (.bool (isiN (tyN d) T)) { s with toks := tk }) : wpAny (model X.prog X.w) A (call (.builtin "isinstance") [u, .type T]) Q E s := by
 have e := hT d hno
 cases d with
 | exn c => cases hno
 | dnn Φ ks ds => cases hno
 | non => cases (show v = .non from i); cases (show u = .none from r); exact PySem.W.kia_one PySem.W.kitx_none I.kIn True.intro e (fun z => nomatch z) h
 | bl b => cases (show v = .bl b from i); cases (show u = .bool b from r); exact PySem.W.kia_one PySem.W.kitx_bool I.kIn True.intro e (fun z => nomatch z) h
 | int b => cases (show v = .int b from i); obtain ⟨t, rfl⟩ := (show ∃ t, u = .int b t from r); exact PySem.W.kia_one PySem.W.kitx_int I.kIn True.intro e (fun z => nomatch z) h
 | str b => obtain ⟨rfl, _⟩ := i; obtain ⟨t, rfl⟩ := (show ∃ t, u = .str b t from r); exact PySem.W.kia_one PySem.W.kitx_str I.kIn True.intro e (fun z => nomatch z) h
 | tup ds =>
  obtain ⟨a, xs, rfl, h1, _⟩ := i
  cases (show u = .ref a from r)
  obtain ⟨its, _, ⟨o, e1, e2, _⟩, _⟩ := I.tuple (.of h1)
  exact PySem.W.kia_one PySem.W.kitx_tuple I.kIn ⟨o, e1, e2⟩ e (fun z => nomatch z) h
 | lst ds =>
  obtain ⟨a, xs, rfl, h1, _⟩ := i
  cases (show u = .ref a from r)
  obtain ⟨its, _, ⟨o, _, e1, e2, _⟩, _⟩ := I.list h1
  exact PySem.W.kia_one PySem.W.kitx_list I.kIn ⟨o, e1, e2⟩ e (fun z => nomatch z) h
 | dct ks ds =>
  obtain ⟨a, xs, rfl, h1, _⟩ := i
  cases (show u = .ref a from r)
  obtain ⟨_, _, vs, _, o, es, ep, e1, e2, _⟩ := I.hok a _ h1
  exact PySem.W.kia_one PySem.W.kitx_dict I.kIn ⟨o, e1, e2.1⟩ e (fun z => nomatch z) h
 | dtt ks ds =>
  obtain ⟨a, xs, rfl, h1, _⟩ := i
  cases (show u = .ref a from r)
  obtain ⟨_, _, vs, _, o, es, ep, e1, e2, _⟩ := I.hok a _ h1
  exact PySem.W.kia_one PySem.W.kitx_dict I.kIn ⟨o, e1, e2.1⟩ e (fun z => nomatch z) h
theorem cr_isi (hT : IsiOk X.K T) : CallR X (.builtin "isinstance") (fun xs H Q => ∃ x d, xs = [x, .ty T] ∧ Is X.K H d x ∧ noX d = true ∧ Q (.bl (isiN (tyN d) T)) H) := by
 intro pins s σ H xs us Q I r h
 obtain ⟨x, d, rfl, i, hno, q⟩ := h
 obtain ⟨u, w, rfl, r1, r2⟩ := vals2 r
 cases (show w = .type T from r2)
 exact isi_any I r1 i hT hno fun tk => ⟨.bl _, H, I.tok tk, rfl, q⟩
theorem pd_isi {y : Str} {p2 : Pos} (hT : IsiOk X.K T) (hm : X.mg "isinstance" = none) (hm2 : X.mg y = none) (hv2 : bootBuiltins y = some (.type T)) (ha : PE X e (tE X B G₀ fe)) (hg : Gl X "isinstance" := by rfl) (hg2 : Gl X y := by rfl)
  (hn2 : y ≠ "__name__" := by decide) (hd2 : (y == ("__debug__" : Str)) = false := by decide) (hs1 : starEach [e, .Name y p2] X.env = (false, eval e X.env) :: starEach [.Name y p2] X.env := by rfl) :
  PE X (.Call (.Name "isinstance" p) [e, .Name y p2] [] pos) (tE X B G₀ fun δ => fe δ >>= fun d => isiR T d) := by
 refine pd_of (pe_callB (cr_isi hT) hg hm PyProof.Rows.boot_isinstance (pa_cons ha (pa_cons (pe_bltn (v := .ty T) hg2 hm2 hv2 rfl hn2 hd2) pa_nil) hs1) (by decide) (by decide) hs1) fun σ H G δ Q R hw => ?_
 unfold W at hw
 rw [wp_bind] at hw
 refine ⟨G, δ, R, Rs.wp.mono hw (fun _ x => x) fun d q v H1 G1 e1 i1 => ?_⟩
 unfold isiR at q
 split at q
 ·rename_i hno
  exact ⟨v, d, rfl, i1.same e1.gh, hno, q _ H1 G1 e1 rfl⟩
 ·exact q.elim
end
theorem isi_int (K : PySem.W.Frag) : IsiOk K "int" := by intro d hd; cases d <;> first | rfl | cases hd
theorem isi_bool (K : PySem.W.Frag) : IsiOk K "bool" := by intro d hd; cases d <;> first | rfl | cases hd
theorem isi_str (K : PySem.W.Frag) : IsiOk K "str" := by intro d hd; cases d <;> first | rfl | cases hd
theorem isi_tuple (K : PySem.W.Frag) : IsiOk K "tuple" := by intro d hd; cases d <;> first | rfl | cases hd
theorem isi_list (K : PySem.W.Frag) : IsiOk K "list" := by intro d hd; cases d <;> first | rfl | cases hd
end M

set_option Elab.async false
set_option linter.all false
set_option maxRecDepth 100000
set_option maxHeartbeats 4000000
namespace M
open PySem PySem.Spec PyProof.Rows L2
set_option autoImplicit false

noncomputable def boolsOf : List D → Option (List Bool)
 | [] => some []
 | .bl b :: r => (boolsOf r).map (b :: ·)
 | _ :: _ => none
@[simp] theorem boolsOf_map {α : Type} (f : α → Bool) (l : List α) : boolsOf (l.map fun x => D.bl (f x)) = some (l.map f) := by
 induction l with
 | nil => rfl
 | cons a r ih => simp [boolsOf, ih]
noncomputable def allR : List D → Rs D
 | [.lst ds] => match boolsOf ds with
  | some bs => .ok (.bl (bs.all id))
  | none => .bad
 | _ => .bad
section
variable {K : PySem.W.Frag} {G : Hp}
theorem bools_get : ∀ {ds : List D} {bs : List Bool} {xs : List V} {us : List Value}, boolsOf ds = some bs → IsL K G ds xs → Vals xs us → ∀ (i : Nat) (u : Value), us[i]? = some u → u = .bool (bs.getD i false) ∧ us.length = bs.length
 | [], bs, xs, us, e, h, r => by
  rw [show xs = [] from h] at r
  cases r
  intro i u q
  simp at q
 | d :: ds, bs, xs, us, e, h, r => by
  obtain ⟨x, xr, rfl, h1, h2⟩ := h
  cases r with
  | @cons _ u0 _ ur r1 r2 =>
   cases d with
   | bl b =>
    unfold boolsOf at e
    cases q : boolsOf ds with
    | none => rw [q] at e; cases e
    | some br =>
     rw [q] at e
     cases e
     cases (show x = .bl b from h1)
     cases (show u0 = .bool b from r1)
     have hl : ur.length = br.length := by
      cases ur with
      | nil =>
       have := r2.length
       have h3 := h2.length
       have : ds = [] := by
        cases ds with
        | nil => rfl
        | cons _ _ => simp at h3; simp_all
       subst this
       cases q
       rfl
      | cons z zs => exact (bools_get q h2 r2 0 z rfl).2
     intro i u e
     cases i with
     | zero => simp at e; subst e; exact ⟨rfl, by simp [hl]⟩
     | succ i =>
      have := bools_get q h2 r2 i u (by simpa using e)
      exact ⟨by simpa using this.1, by simp [hl]⟩
   | _ => exact absurd e (by simp [boolsOf])
theorem range_all (bs : List Bool) : (List.range bs.length).all (fun i => bs.getD i false) = bs.all id := by
 induction bs with
 | nil => rfl
 | cons b r ih =>
  rw [List.length_cons, List.range_succ_eq_map, List.all_cons, List.all_map]
  have e : (List.range r.length).all ((fun i => (b :: r).getD i false) ∘ Nat.succ) = r.all id := by simpa [Function.comp_def] using ih
  rw [e]; rfl
end
section
variable {X : Cx} {B G₀ : Hp}
theorem cd_all (hc : X.calm = true) : CallD X (.builtin "all") allR := by
 intro pins s σ H G Q ds vs us I gh r i hw
 unfold allR at hw
 split at hw
 ·rename_i ds
  split at hw
  ·rename_i bs hb
   obtain ⟨v, rfl, h⟩ := isL1 i
   obtain ⟨u, rfl, ru⟩ := vals1 r
   obtain ⟨a, xs, rfl, h1, h2, h3⟩ := h
   cases (show u = .ref a from ru)
   obtain ⟨its, rv, pl, hz⟩ := I.list (gh.seq h1)
   have hget := bools_get hb h3 rv
   have hlen : its.length = bs.length := by
    cases its with
    | nil =>
     have e1 := rv.length
     have e2 := h3.length
     have : ds = [] := by cases ds with
      | nil => rfl
      | cons _ _ => simp at e2; simp_all
     subst this
     cases hb
     rfl
    | cons z zs => exact (hget 0 z rfl).2
   have hne : a ≠ s.heap.objs.size := Nat.ne_of_lt (by obtain ⟨o, e, _⟩ := pl.isList; exact Heap.lt_size e)
   refine call_all_walk (wpAny_pyIter_list pl.isList ?_)
   refine ⟨s.heap.objs.size, [s.heap.objs.size, a], [s.heap.objs.size], its.toArray.size, fun i v => its.toArray[i]? = some v, fun i h => h.IsListIter s.heap.objs.size a i ∧ h.IsList a its.toArray, fun i => bs.getD i false, rfl,
    Walks.list (show X.A.in1.handled = none from I.ok.hd hc) _ a hne its.toArray, ⟨⟨_, Heap.get?_push_size _ rfl, rfl, rfl⟩, pl.isList.at fun o e => Heap.get?_push_of_some _ e⟩, ?_, ?_⟩
   ·intro i v s' Q' E' hP hQ
    have hP' : its[i]? = some v := by simpa using hP
    rw [(hget i v hP').1]
    exact wpAny_truthy_bool hQ
   ·intro h' tk hk
    rw [List.size_toArray, hlen, range_all]
    refine ⟨.bl _, H, I.kept (t' := tk) fun b o e => hk b o (fun hb => ?_) (Heap.get?_push_of_some _ e), rfl, wOk hw gh rfl⟩
    rw [List.mem_singleton.mp hb] at e
    exact absurd (Heap.lt_size e) (Nat.lt_irrefl _)
  ·exact hw.elim
 ·exact hw.elim
end
end M

set_option Elab.async false
set_option linter.all false
set_option maxRecDepth 100000
set_option maxHeartbeats 4000000
namespace M
open PySem PySem.Spec PyProof.Rows L2
set_option autoImplicit false

inductive Out where
 | nx (δ : DS) | rt (d : D) | bk (δ : DS) | ct (δ : DS) | exc (c : Str) (δ : DS) | bad
noncomputable def Rs.out {α : Type} (r : Rs α) (δ : DS) (k : α → Out) : Out := match r with
 | .ok a => k a
 | .exc c => .exc c δ
 | .bad => .bad
@[simp] theorem ok_out {α : Type} (a : α) (δ : DS) (k : α → Out) : (Rs.ok a).out δ k = k a := nodef rfl
noncomputable def XS (X : Cx) (B G₀ : Hp) (c : Str) (δ : DS) : Prop := ∀ (pins : List (Addr × Obj)) (σ : St) (s' : Shared) (H G : Hp) (ev : Value), Rel X B G₀ σ H G δ → Inv X pins σ H s' → ∀ s'' : Shared, IsX X c H G s' ev s'' → X.xe ev s''
noncomputable def WS (X : Cx) (B G₀ : Hp) (D : Ends) (o : Out) : Prop := match o with
 | .nx δ => ∀ σ H G, Rel X B G₀ σ H G δ → D.nx σ H
 | .rt d => ∀ v H G, Ext B G₀ H G → Is X.K G d v → D.rt v H
 | .bk δ => ∀ σ H G, Rel X B G₀ σ H G δ → D.bk σ H
 | .ct δ => ∀ σ H G, Rel X B G₀ σ H G δ → D.ct σ H
 | .exc c δ => XS X B G₀ c δ
 | .bad => False
noncomputable def tS (X : Cx) (B G₀ : Hp) (F : DS → Out) : TS := fun D σ H => ∃ G δ, Rel X B G₀ σ H G δ ∧ WS X B G₀ D (F δ)

section
variable {X : Cx} {B G₀ : Hp} {σ : St} {H G : Hp} {δ : DS} {D' : Ends}
theorem out_W {r : Rs D} {k : D → Out} {Q : VK} (R : Rel X B G₀ σ H G δ) (hw : WS X B G₀ D' (r.out δ k)) (hk : ∀ d, r = .ok d → WS X B G₀ D' (k d) → ∀ v H' G', Ext H G H' G' → Is X.K G' d v → Q v H') : W X Q σ H G r := by
 cases r with
 | ok d => exact hk d rfl hw
 | exc c => exact fun pins s' H' G' ev e I x => hw pins σ s' H' G' ev (R.mono e) I x
 | bad => exact hw.elim
theorem out_WT {r : Rs Bool} {k : Bool → Out} {Q : Bool → Hp → Prop} (R : Rel X B G₀ σ H G δ) (hw : WS X B G₀ D' (r.out δ k)) (hk : ∀ d, r = .ok d → WS X B G₀ D' (k d) → ∀ H' G', Ext H G H' G' → Q d H') : WT X Q σ H G r := by
 cases r with
 | ok d => exact hk d rfl hw
 | exc c => exact fun pins s' H' G' ev e I x => hw pins σ s' H' G' ev (R.mono e) I x
 | bad => exact hw.elim
theorem ps_imp {st : Stmt} {t t' : TS} (h : PS X st t) (k : ∀ D σ H, t' D σ H → t D σ H) : PS X st t' := fun pins s σ H D I hw => h pins s σ H D I (k D σ H hw)
theorem pss_imp {st : List Stmt} {t t' : TS} (h : PSs X st t) (k : ∀ D σ H, t' D σ H → t D σ H) : PSs X st t' := fun pins s σ H D I hw => h pins s σ H D I (k D σ H hw)

noncomputable def seqO (F1 F2 : DS → Out) : DS → Out := fun δ => match F1 δ with
 | .nx δ' => F2 δ'
 | .rt d => .rt d
 | .bk δ' => .bk δ'
 | .ct δ' => .ct δ'
 | .exc c δ' => .exc c δ'
 | .bad => .bad
variable {st : Stmt} {rest sts sts' : List Stmt} {F F1 F2 : DS → Out} {e a b c : Expr} {fe fa fb : DS → Rs D} {gc : DS → Rs Bool} {pos : Pos}
theorem pds_nil : PSs X [] (tS X B G₀ Out.nx) := pss_imp pss_nil fun D σ H ⟨G, δ, R, hw⟩ => hw σ H G R
theorem pds_cons (h1 : PS X st (tS X B G₀ F1)) (h2 : PSs X rest (tS X B G₀ F2)) : PSs X (st :: rest) (tS X B G₀ (seqO F1 F2)) := by
 refine pss_imp (pss_cons h1 h2) fun D σ H ⟨G, δ, R, hw⟩ => ⟨G, δ, R, ?_⟩
 unfold seqO at hw
 cases q : F1 δ with
 | nx δ' => rw [q] at hw; exact fun σ' H' G' R' => ⟨G', δ', R', hw⟩
 | rt d => rw [q] at hw; exact hw
 | bk δ' => rw [q] at hw; exact hw
 | ct δ' => rw [q] at hw; exact hw
 | exc c δ' => rw [q] at hw; exact hw
 | bad => rw [q] at hw; exact hw
theorem pds_one (h1 : PS X st (tS X B G₀ F1)) : PSs X [st] (tS X B G₀ F1) := pss_one h1
theorem pds_never : PS X st (tS X B G₀ fun _ => .bad) := ps_imp ps_never fun D σ H ⟨G, δ, R, hw⟩ => hw
theorem pds_expr (he : PE X e (tE X B G₀ fe)) (hs : swapsWith e none pos.line X.env = pure false := by rfl) : PS X (.Expr e pos) (tS X B G₀ fun δ => (fe δ).out δ fun _ => .nx δ) :=
 ps_imp (ps_expr he hs) fun D σ H ⟨G, δ, R, hw⟩ => ⟨G, δ, R, out_W R hw fun d _ hk v H' G' e i => hk σ H' G' (R.mono e)⟩
theorem pds_ret (he : PE X e (tE X B G₀ fe)) : PS X (.Return (some e) pos) (tS X B G₀ fun δ => (fe δ).out δ fun d => .rt d) :=
 ps_imp (ps_ret he) fun D σ H ⟨G, δ, R, hw⟩ => ⟨G, δ, R, out_W R hw fun d _ hk v H' G' e i => hk v H' G' (R.ext.trans e) i⟩
theorem pds_if (hc : PT X c (tT X B G₀ gc)) (ha : PSs X sts (tS X B G₀ F1)) (hb : PSs X sts' (tS X B G₀ F2)) : PS X (.If c sts sts' pos) (tS X B G₀ fun δ => (gc δ).out δ fun k => if k = true then F1 δ else F2 δ) := by
 refine ps_imp (ps_if hc ha hb) fun D σ H ⟨G, δ, R, hw⟩ => ⟨G, δ, R, out_WT R hw fun k _ hk H' G' e => ?_⟩
 cases k with
 | true => exact ⟨G', δ, R.mono e, hk⟩
 | false => exact ⟨G', δ, R.mono e, hk⟩
theorem pds_set (i : Nat) {x : Str} {pos' : Pos} (hN : X.N.Nodup) (he : PE X e (tE X B G₀ fe)) (hi : X.N[i]? = some x := by rfl) (hx : Loc X.env.scope x := by first | exact Or.inl rfl | exact Or.inr rfl) (hs : swapsWith e (some (.Name x pos')) pos.line X.env = pure false := by rfl)
  (hf : X.fn x = true ∨ X.env.scope.names.lookup x = some .local := by first | exact .inl rfl | exact .inr rfl | assumption) :
  PS X (.Assign [.Name x pos'] e pos) (tS X B G₀ fun δ => (fe δ).out δ fun d => .nx (δ.set i (some (.v d)))) :=
 ps_imp (ps_set hN hi hx he hs hf) fun D σ H ⟨G, δ, R, hw⟩ => ⟨G, δ, R, out_W R hw fun d _ hk v H' G' e i' => hk _ H' G' ((R.mono e).set i i')⟩
noncomputable def getV (δ : DS) (i : Nat) : Rs D := match δ[i]? with
 | some (some (.v d)) => .ok d
 | _ => .bad
noncomputable def IpD (X : Cx) (op : Operator) (g : D → D → Rs D) : Prop := OpD X (inplaceOp op) g
theorem ip_addD : IpD X .Add addR := by
 intro pins s σ H G Q d1 d2 x y v u I gh rx ry i1 i2 hw
 cases d1 with
 | int i =>
  cases d2 with
  | int j => exact iop_add pins s σ H x y v u Q I rx ry ⟨i, j, i1, i2, wOk hw gh rfl⟩
  | _ => exact hw.elim
 | str i =>
  cases d2 with
  | str j =>
   obtain ⟨hz, hw⟩ := wIf (r := .ok (.str (i ++ j))) (c := i.length + j.length ≤ sizeLine) hw
   have hl : (i ++ j).length = i.length + j.length := by simp [Str.length, show (i ++ j).cps = i.cps ++ j.cps from rfl]
   exact iop_add_str pins s σ H x y v u Q I rx ry ⟨i, j, i1.1, i2.1, hz, wOk hw gh ⟨rfl, by rw [hl]; exact hz, strOk_append i1.2.2 i2.2.2⟩⟩
  | _ => exact hw.elim
 | _ => cases d2 <;> exact hw.elim
theorem pds_aug (i : Nat) {x : Str} {op : Operator} {g : D → D → Rs D} {pos' : Pos} (ho : IpD X op g) (hN : X.N.Nodup) (he : PE X e (tE X B G₀ fe)) (hi : X.N[i]? = some x := by rfl) (hx : Loc X.env.scope x := by first | exact Or.inl rfl | exact Or.inr rfl)
  (hf : X.fn x = true ∨ X.env.scope.names.lookup x = some .local := by first | exact .inl rfl | exact .inr rfl | assumption) :
  PS X (.AugAssign (.Name x pos') op e pos) (tS X B G₀ fun δ => (getV δ i >>= fun d => fe δ >>= fun y => g d y).out δ fun d => .nx (δ.set i (some (.v d)))) := by
 intro pins s σ H D' I h
 obtain ⟨G, δ, R, hw⟩ := h
 have W0 : W X (fun v H' => D'.nx (σ.set i (some v)) H') σ H G (getV δ i >>= fun d => fe δ >>= fun y => g d y) :=
  out_W R hw fun d _ hk v H' G' e i' => hk _ H' G' ((R.mono e).set i i')
 cases q : getV δ i with
 | exc c => unfold getV at q; split at q <;> cases q
 | bad => rw [q] at W0; exact W0.elim
 | ok d0 =>
  rw [q] at W0
  have q' : δ[i]? = some (some (.v d0)) := by
   unfold getV at q
   split at q
   ·rename_i e; cases q; exact e
   ·cases q
  obtain ⟨v0, hσ, hi0⟩ := R.val i d0 q'
  obtain ⟨m, hn, hl⟩ := I.loc
  have vis : Vis X.env.scope x := by rcases hx with k | k; exact .inl k; exact .inr (.inl k)
  obtain ⟨u0, r0, l⟩ := hl i x v0 hi hσ vis
  refine wpAny_AugAssign_Name ?_
  have go : wpAny (model X.prog X.w) X.A (eval e X.env) (fun w s₂ => wpAny (model X.prog X.w) X.A (inplaceOp op u0 w) (fun r s₃ => wpAny (model X.prog X.w) X.A (storeName X.env x r) (fun _ => SP X pins D' .next) X.xe s₃) X.xe s₂) X.xe s := by
   refine bindE he I R W0 fun d1 u1 v1 s1 H1 G1 I1 R1 r1 e1 i1 hw1 => ?_
   refine thn (ho pins s1 σ H1 G1 (fun v H' => D'.nx (σ.set i (some v)) H') d0 d1 v0 v1 u0 u1 I1 R1.ext.gh r0 r1 (hi0.same e1.gg) i1 (wmono hw1 e1)) fun z s2 ⟨zv, H2, I2, r2, q2⟩ => ?_
   exact store_ok I2 hN hi hx r2 (fun s3 I3 => ⟨_, H2, I3, q2⟩) hf
  rcases l with ⟨hk, hm⟩ | ⟨hk, c, hc, hcell⟩
  ·exact wpAny_loadName_local I.ok.kind hk hn hm go
  ·rcases hk with hk | hk
   ·exact wpAny_loadName_cell I.ok.kind hk hc hcell go
   ·have : X.env.scope.names.lookup x = some .free := hk
    rcases hx with k | k <;> (rw [k] at this; cases this)

theorem Ext.rebase {H1 G1 : Hp} (e : Ext B G₀ H1 G1) (f : Ext B G1 H G) : Ext B G₀ H G :=
 ⟨f.hh, e.gg.trans f.gg, f.gh, fun b o q => by
  rcases f.new b o q with z | z
  ·exact e.new b o z
  ·exact .inr z⟩
theorem Rel.up (R : Rel X B G₀ σ H G δ) : Rel X B G σ H G δ := ⟨⟨R.ext.hh, Same.refl _, R.ext.gh, fun _ _ q => .inl q⟩, R.len, R.val, R.own, R.apart⟩
theorem Rel.down {H1 G1 : Hp} (e : Ext B G₀ H1 G1) (R : Rel X B G1 σ H G δ) : Rel X B G₀ σ H G δ := ⟨e.rebase R.ext, R.len, R.val, R.own, R.apart⟩
theorem XS.up {c : Str} {H1 G1 : Hp} (e : Ext B G₀ H1 G1) (h : XS X B G₀ c δ) : XS X B G1 c δ := fun pins σ s' H G ev R I x => h pins σ s' H G ev (R.down e) I x

noncomputable def ItD (X : Cx) (J : It) (ds : List D) (G1 : Hp) : Prop := ∀ H G, Same G1 G → Same G H →
 (∀ (i : Nat) (d : D), ds[i]? = some d → J.go i H ∧ ∀ x H2, J.yld i H x H2 → ∃ G2, Ext H G H2 G2 ∧ Is X.K G2 d x) ∧ J.stop ds.length H
noncomputable def tI (X : Cx) (B G₀ : Hp) (f : DS → Rs (List D)) : TI := fun σ H R => ∃ G δ, Rel X B G₀ σ H G δ ∧ (f δ).wp (fun c => Xo X c σ H G) fun ds => ∀ J H' G', Ext H G H' G' → ItD X J ds G' → R J H'
noncomputable def forO (tg : D → DS → Option DS) (F : DS → Out) : List D → DS → Out
 | [], δ => .nx δ
 | d :: ds, δ => match tg d δ with
  | none => .bad
  | some δ1 => match F δ1 with
   | .nx δ' => forO tg F ds δ'
   | .ct δ' => forO tg F ds δ'
   | .bk δ' => .nx δ'
   | .rt d => .rt d
   | .exc c δ' => .exc c δ'
   | .bad => .bad
noncomputable def TgD (X : Cx) (B : Hp) (g : TG) (tg : D → DS → Option DS) : Prop := ∀ (G₀ : Hp) (σ : St) (H G : Hp) (δ δ1 : DS) (d : D) (x : V) (Q : St → Hp → Prop), Rel X B G₀ σ H G δ → Is X.K G d x → tg d δ = some δ1 → (∀ σ' H' G', Rel X B G₀ σ' H' G' δ1 → Q σ' H') → g x σ H Q
theorem tg_name (i : Nat) : TgD X B (gName i) (fun d δ => some (δ.set i (some (.v d)))) := fun G₀ σ H G δ δ1 d x Q R hi e hQ => by
 cases e
 exact hQ _ H G (R.set i hi)
theorem pds_for {tgt iter : Expr} {g : TG} {tg : D → DS → Option DS} {f : DS → Rs (List D)} (hp : PassesOwn (model X.prog X.w) X.A X.env X.xe) (hc : X.calm = true) (hi : PI X tgt iter (tI X B G₀ f)) (hg : PG X tgt g) (ht : TgD X B g tg) (hb : ∀ G₀, PSs X sts (tS X B G₀ F))
  (hs : ∀ x, foldedSetIterable iter X.env x = pure x := by intro _; rfl) : PS X (.For tgt iter sts [] pos) (tS X B G₀ fun δ => (f δ).out δ fun ds => forO tg F ds δ) := by
 intro pins s σ H D' I h
 obtain ⟨G, δ, R, hw⟩ := h
 have hw : WS X B G₀ D' ((f δ).out δ fun ds => forO tg F ds δ) := hw
 have hbody : PSs X sts fun D σ H => ∃ G₀, tS X B G₀ F D σ H := fun pins s σ H D I ⟨G₀, h⟩ => hb G₀ pins s σ H D I h
 refine ps_for hp hc hi hg hbody hs pins s σ H D' I ⟨G, δ, R, ?_⟩
 cases q : f δ with
 | exc c => rw [q] at hw; exact fun pins s' H' G' ev e I x => hw pins σ s' H' G' ev (R.mono e) I x
 | bad => rw [q] at hw; exact hw.elim
 | ok ds =>
  rw [q] at hw
  intro J H1 G1 e1 hJ
  have R1 := R.mono e1
  have eb : Ext B G₀ H1 G1 := R1.ext
  refine ⟨fun k m σ H => m = ds.length - k ∧ k ≤ ds.length ∧ ∃ G δ, Rel X B G1 σ H G δ ∧ WS X B G₀ D' (forO tg F (ds.drop k) δ), ⟨ds.length, by simp, Nat.zero_le _, G1, δ, R1.up, by simpa using hw⟩, ?_⟩
  rintro k m σ H ⟨rfl, hk, G, δ, R, hw⟩
  obtain ⟨j1, j2⟩ := hJ H G R.ext.gg R.ext.gh
  by_cases hlt : k < ds.length
  ·have hd : ds[k]? = some ds[k] := List.getElem?_eq_getElem hlt
   obtain ⟨go, yl⟩ := j1 k _ hd
   rw [List.drop_eq_getElem_cons hlt] at hw
   refine .inr ⟨go, fun σ' H' => ∃ G δ, Rel X B G1 σ' H' G δ ∧ WS X B G₀ D' (forO tg F (ds.drop (k + 1)) δ), fun σ' H' ⟨G, δ, R, hw⟩ => ⟨ds.length - (k + 1), by omega, rfl, hlt, G, δ, R, hw⟩, fun x H2 y => ?_⟩
   obtain ⟨G2, e2, i2⟩ := yl x H2 y
   unfold forO at hw
   cases q1 : tg ds[k] δ with
   | none => rw [q1] at hw; exact hw.elim
   | some δ1 =>
    rw [q1] at hw
    refine ht G1 σ H2 G2 δ δ1 _ x _ (R.mono e2) i2 q1 fun σ3 H3 G3 R3 => ⟨G1, G3, δ1, R3, ?_⟩
    dsimp only at hw
    cases q2 : F δ1 with
    | nx δ' => rw [q2] at hw; exact fun σ' H' G' R' => ⟨G', δ', R', hw⟩
    | ct δ' => rw [q2] at hw; exact fun σ' H' G' R' => ⟨G', δ', R', hw⟩
    | bk δ' => rw [q2] at hw; exact fun σ' H' G' R' => hw σ' H' G' (R'.down eb)
    | rt d => rw [q2] at hw; exact fun v H' G' e i => hw v H' G' (eb.rebase e) i
    | exc c δ' => rw [q2] at hw; exact hw.up eb
    | bad => rw [q2] at hw; exact hw
  ·have e : k = ds.length := by omega
   subst e
   refine .inl ⟨j2, ?_⟩
   rw [List.drop_length] at hw
   exact hw σ H G (R.down eb)
end
end M

set_option Elab.async false
set_option linter.all false
set_option maxRecDepth 100000
set_option maxHeartbeats 4000000
namespace M
open PySem PySem.Spec PyProof.Rows L2
set_option autoImplicit false

section
variable {X : Cx} {B G₀ : Hp}
theorem itD_list {a : Addr} {xs : List V} {ds : List D} {G1 : Hp} (h1 : SqL X.K G1 a xs) (h3 : IsL X.K G1 ds xs) : ItD X (Itl X.K a) ds G1 := by
 intro H G gg gh
 have hs : SqL X.K H a xs := (gg.trans gh).seq h1
 have hi := h3.same gg
 refine ⟨fun i d e => ?_, xs, hs, by rw [h3.length]; exact Nat.le_refl _⟩
 obtain ⟨x, hx, ix⟩ := hi.get e
 refine ⟨⟨xs, x, hs, hx⟩, fun y H2 ⟨eq, q⟩ => ?_⟩
 subst eq
 have := q xs hs
 rw [hx] at this; cases this
 exact ⟨G, Ext.refl gh, ix⟩
theorem itD_tup {a : Addr} {xs : List V} {ds : List D} {G1 : Hp} (h1 : G1 a = some (.tup xs)) (h3 : IsL X.K G1 ds xs) : ItD X (Itt X.K a) ds G1 := by
 intro H G gg gh
 have hs : SqT X.K H a xs := SqT.same (gg.trans gh) h1
 have hi := h3.same gg
 refine ⟨fun i d e => ?_, xs, hs, by rw [h3.length]; exact Nat.le_refl _⟩
 obtain ⟨x, hx, ix⟩ := hi.get e
 refine ⟨⟨xs, x, hs, hx⟩, fun y H2 ⟨eq, q⟩ => ?_⟩
 subst eq
 have := q xs hs
 rw [hx] at this; cases this
 exact ⟨G, Ext.refl gh, ix⟩
noncomputable def Its (x : Str) : It := ⟨fun i _ => i < x.length, fun i H v H' => H' = H ∧ ∃ c, x.cps[i]? = some c ∧ v = .str (chr1 c), fun i _ => x.length ≤ i⟩
noncomputable def signsD (x : Str) : List D := x.cps.toList.map fun c => .str (chr1 c)
theorem itD_str {x : Str} {G1 : Hp} (ok : PyData.strOk x = true) : ItD X (Its x) (signsD x) G1 := by
 intro H G gg gh
 have hl : (signsD x).length = x.length := by simp [signsD, Str.length]
 refine ⟨fun i d e => ?_, by rw [hl]; exact Nat.le_refl _⟩
 have hi : i < x.length := by rw [← hl]; exact (List.getElem?_eq_some_iff.mp e).1
 refine ⟨hi, fun v H2 ⟨eq, c, hc, hv⟩ => ?_⟩
 subst eq
 refine ⟨G, Ext.refl gh, ?_⟩
 have e2 : d = .str (chr1 c) := by
  unfold signsD at e
  rw [List.getElem?_map] at e
  have : x.cps.toList[i]? = some c := by simpa using hc
  rw [this] at e
  cases e; rfl
 subst e2
 refine ⟨hv, (by show 1 ≤ sizeLine; decide), ?_⟩
 have hm : c ∈ x.cps := by
  have : x.cps.toList[i]? = some c := by simpa using hc
  simpa using List.mem_of_getElem? this
 unfold PyData.strOk at ok ⊢
 have := Array.all_eq_true_iff_forall_mem.mp ok c hm
 simpa [chr1] using this
theorem turn_ascii {P : Program} {w : World} {K : PySem.W.Frag} {tg : Expr} (x : Str) (t : Tok) (it : Addr) : Turn P w K tg (Its x) [it] it (fun i h => h.IsStrIter it "str_ascii_iterator" x t i) where
 mem := by simp
 obj := fun i h st b hb => by
  have e : b = it := by simpa using hb
  subst e
  obtain ⟨o, e, c, d⟩ := st
  exact ⟨o, e, fun v z => by rw [d] at z; cases z⟩
 keep := fun i h h' ⟨o, e, r⟩ k => ⟨o, k it (by simp) o e, r⟩
 item := by
  intro X hP hw hK hc i pins s σ H E I hf st hg
  subst hP hw hK
  obtain ⟨f0, f1, f2, f3, f4, f5⟩ := hf it (by simp)
  have hi : i < x.cps.size := hg
  have hx : x.cps[i]? = some x.cps[i] := by simp [hi]
  refine wpAny_pyNext_ascii_item st hx fun h' st' sb => ?_
  have I1 : Inv X pins σ H { s with heap := h', toks := s.toks + 1 } := I.turned (t' := s.toks + 1) (fun b o hb e => (sb.2 b hb).trans e) f0 f1 f3 f4 f5
  obtain ⟨o, e, c, d⟩ := id st'
  exact ⟨_, rfl, go_of (s := { s with heap := h', toks := s.toks + 1 }) e c d (by decide) ⟨.str (chr1 x.cps[i]), H, I1, ⟨_, rfl⟩, ⟨rfl, _, hx, rfl⟩, st', fun b hb => (hf b hb).1⟩⟩
 done := by
  intro X hP hw hK hc i pins s σ H E I hf st hg
  subst hP hw hK
  obtain ⟨f0, f1, f2, f3, f4, f5⟩ := hf it (by simp)
  have hi : x.cps.size ≤ i := hg
  exact wpAny_pyNext_ascii_end (I.ok.hd hc) st (by simp [hi]) fun h' eb => ⟨rfl, I.turned (t' := s.toks) (fun b o hb e => eb b o hb e) f0 f1 f3 f4 f5⟩
 self := fun _ _ _ _ _ st h => wpAny_pyIter_striter_ascii st h
theorem turn_wide {P : Program} {w : World} {K : PySem.W.Frag} {tg : Expr} (x : Str) (t : Tok) (it : Addr) : Turn P w K tg (Its x) [it] it (fun i h => h.IsStrIter it "str_iterator" x t i) where
 mem := by simp
 obj := fun i h st b hb => by
  have e : b = it := by simpa using hb
  subst e
  obtain ⟨o, e, c, d⟩ := st
  exact ⟨o, e, fun v z => by rw [d] at z; cases z⟩
 keep := fun i h h' ⟨o, e, r⟩ k => ⟨o, k it (by simp) o e, r⟩
 item := by
  intro X hP hw hK hc i pins s σ H E I hf st hg
  subst hP hw hK
  obtain ⟨f0, f1, f2, f3, f4, f5⟩ := hf it (by simp)
  have hi : i < x.cps.size := hg
  have hx : x.cps[i]? = some x.cps[i] := by simp [hi]
  refine wpAny_pyNext_wide_item st hx fun h' st' sb => ?_
  have I1 : Inv X pins σ H { s with heap := h', toks := s.toks + 1 } := I.turned (t' := s.toks + 1) (fun b o hb e => (sb.2 b hb).trans e) f0 f1 f3 f4 f5
  obtain ⟨o, e, c, d⟩ := id st'
  exact ⟨_, rfl, go_of (s := { s with heap := h', toks := s.toks + 1 }) e c d (by decide) ⟨.str (chr1 x.cps[i]), H, I1, ⟨_, rfl⟩, ⟨rfl, _, hx, rfl⟩, st', fun b hb => (hf b hb).1⟩⟩
 done := by
  intro X hP hw hK hc i pins s σ H E I hf st hg
  subst hP hw hK
  obtain ⟨f0, f1, f2, f3, f4, f5⟩ := hf it (by simp)
  have hi : x.cps.size ≤ i := hg
  exact wpAny_pyNext_wide_end (I.ok.hd hc) st (by simp [hi]) fun h' eb => ⟨rfl, I.turned (t' := s.toks) (fun b o hb e => eb b o hb e) f0 f1 f3 f4 f5⟩
 self := fun _ _ _ _ _ st h => wpAny_pyIter_striter_wide st h
noncomputable def itR : D → Rs (List D)
 | .lst ds => .ok ds
 | .tup ds => .ok ds
 | .str x => .ok (signsD x)
 | _ => .bad
variable {l : Expr} {fe : DS → Rs D} {tg : Expr}
theorem pdi_any (hl : PE X l (tE X B G₀ fe)) : PI X tg l (tI X B G₀ fun δ => fe δ >>= itR) := by
 intro pins s σ H Rk I ⟨G, δ, R, hw⟩
 refine bindE hl I R hw fun d u v s1 H1 G1 I1 R1 r1 e1 i1 hw1 => ?_
 have fp1 : ∀ b ∈ [s1.heap.objs.size], FpOk X pins H1 b := fun b hb => by
  have e : b = s1.heap.objs.size := by simpa using hb
  subst e
  exact I1.fpOk (Nat.le_refl _) (I1.hok.fresh (Nat.le_refl _))
 cases d with
 | lst ds =>
  obtain ⟨a, xs, rfl, h1, h2, h3⟩ := i1
  cases r1
  obtain ⟨its, rv, p, hz⟩ := I1.list (R1.ext.gh.seq h1)
  refine wpAny_pyIter_list p.isList ?_
  exact ⟨s1.heap.objs.size, [s1.heap.objs.size], _, _, H1, rfl, I1.kept (t' := s1.toks) fun b o e => Heap.get?_push_of_some _ e, turn_list a _, ⟨_, Heap.get?_push_size _ rfl, rfl, rfl⟩, fp1, hw1 _ H1 G1 e1 (itD_list h1 h3)⟩
 | tup ds =>
  obtain ⟨a, xs, rfl, h1, h2, h3⟩ := i1
  cases r1
  obtain ⟨its, rv, p, hz⟩ := I1.tuple (SqT.same R1.ext.gh h1)
  refine wpAny_pyIter_tuple (show s1.heap.IsTuple a its.toArray from p) ?_
  exact ⟨s1.heap.objs.size, [s1.heap.objs.size], _, _, H1, rfl, I1.kept (t' := s1.toks) fun b o e => Heap.get?_push_of_some _ e, turn_tuple a _, ⟨_, Heap.get?_push_size _ rfl, rfl, rfl⟩, fp1, hw1 _ H1 G1 e1 (itD_tup h1 h3)⟩
 | str x =>
  obtain ⟨rfl, h2, h3⟩ := i1
  obtain ⟨t, rfl⟩ := r1
  cases ha : x.cps.all (· < 128) with
  | false =>
   refine wpAny_pyIter_wide ha ?_
   exact ⟨s1.heap.objs.size, [s1.heap.objs.size], _, _, H1, rfl, I1.kept (t' := s1.toks) fun b o e => Heap.get?_push_of_some _ e, turn_wide x t _, ⟨_, Heap.get?_push_size _ rfl, rfl, rfl⟩, fp1, hw1 _ H1 G1 e1 (itD_str h3)⟩
  | true =>
   refine wpAny_pyIter_ascii ha ?_
   exact ⟨s1.heap.objs.size, [s1.heap.objs.size], _, _, H1, rfl, I1.kept (t' := s1.toks) fun b o e => Heap.get?_push_of_some _ e, turn_ascii x t _, ⟨_, Heap.get?_push_size _ rfl, rfl, rfl⟩, fp1, hw1 _ H1 G1 e1 (itD_str h3)⟩
 | _ => exact hw1.elim
noncomputable def rngD (lo : Int) (n : Nat) : List D := (List.range n).map fun (k : Nat) => .int (lo + (k : Int))
theorem itD_rng {lo : Int} {n : Nat} {G1 : Hp} : ItD X (Itr lo n) (rngD lo n) G1 := by
 intro H G gg gh
 have hl : (rngD lo n).length = n := by simp [rngD]
 refine ⟨fun i d e => ?_, by rw [hl]; exact Nat.le_refl _⟩
 have hi : i < n := by rw [← hl]; exact (List.getElem?_eq_some_iff.mp e).1
 refine ⟨hi, fun v H2 ⟨eq, hv⟩ => ?_⟩
 subst eq
 refine ⟨G, Ext.refl gh, ?_⟩
 have e2 : d = .int (lo + i) := by
  unfold rngD at e
  rw [List.getElem?_map, List.getElem?_range hi] at e
  cases e; rfl
 subst e2
 exact hv
noncomputable def inRng (j : Int) : Bool := decide (-(2 ^ 62) ≤ j ∧ j < 2 ^ 62)
noncomputable def rngR : List D → Rs (List D)
 | [.int j] => if inRng j = true then .ok (rngD 0 j.toNat) else .bad
 | [.int i, .int j] => if (inRng i && inRng j) = true then .ok (rngD i (j - i).toNat) else .bad
 | _ => .bad
variable {a b : Expr} {fr : DS → Rs (List D)} {p pos : Pos}
theorem pi_imp {iter : Expr} {t t' : TI} (h : PI X tg iter t) (k : ∀ σ H R, t' σ H R → t σ H R) : PI X tg iter t' := fun pins s σ H R I hw => h pins s σ H R I (k σ H R hw)
theorem pdi_range1 (hm : X.mg "range" = none) (ha : PA X [a] (tAs X B G₀ fr)) (hg : Gl X "range" := by rfl) (hs : starEach [a] X.env = [(false, eval a X.env)] := by rfl) : PI X tg (.Call (.Name "range" p) [a] [] pos) (tI X B G₀ fun δ => fr δ >>= fun ds => match ds with | [d] => rngR [d] | _ => .bad) := by
 refine pi_imp (pi_range1 hg hm ha hs) fun σ H Rk ⟨G, δ, R, hw⟩ => ⟨G, δ, R, ?_⟩
 rw [wp_bind] at hw
 refine Rs.wp.mono hw (fun _ x => x) fun ds q vs H1 G1 e1 i1 => ?_
 cases ds with
 | nil => exact q.elim
 | cons d r =>
  cases r with
  | cons _ _ => exact q.elim
  | nil =>
   cases d with
   | int j =>
    obtain ⟨v, rfl, h⟩ := isL1 i1
    cases (show v = .int j from h)
    have q : (if inRng j = true then (.ok (rngD 0 j.toNat) : Rs (List D)) else .bad).wp _ _ := q
    split at q
    ·rename_i hj
     obtain ⟨h1, h2⟩ := of_decide_eq_true hj
     exact ⟨j, rfl, h1, h2, q _ H1 G1 e1 itD_rng⟩
    ·exact q.elim
   | _ => exact q.elim
end
end M

set_option Elab.async false
set_option linter.all false
set_option maxRecDepth 100000
set_option maxHeartbeats 4000000
namespace M
open PySem PySem.Spec PyProof.Rows L2
set_option autoImplicit false

noncomputable def clOf (cells : List (Str × Addr)) : List (Str × NameKind) → List (Str × Addr) → List (Str × Addr)
 | [], acc => acc
 | (n, k) :: r, acc => if (k == .free) = true then clOf cells r ((n, (cells.lookup n).getD 0) :: acc) else clOf cells r acc
theorem closure_eq {env : Env} : ∀ (names : List (Str × NameKind)) (acc : List (Str × Addr)), (∀ y ∈ names, y.2 = .free → ∃ c, env.cells.lookup y.1 = some c) →
  (forIn names acc fun (p : Str × NameKind) (cs : List (Str × Addr)) => (if (p.2 == .free) = true then do let c ← cellOf env p.1; pure (ForInStep.yield ((p.1, c) :: cs)) else pure (ForInStep.yield cs) : Sem (ForInStep (List (Str × Addr))))) = (pure (clOf env.cells names acc) : Sem (List (Str × Addr)))
 | [], acc, _ => rfl
 | (n, k) :: r, acc, h => by
  have hr := fun acc => closure_eq r acc fun y hy => h y (List.mem_cons_of_mem _ hy)
  rw [List.forIn_cons]
  by_cases hk : (k == NameKind.free) = true
  ·obtain ⟨c, hc⟩ := h (n, k) (List.mem_cons_self ..) (eq_of_beq hk)
   have e : cellOf env n = pure c := by
    unfold cellOf
    rw [hc]
   unfold clOf
   simp only [hk, if_true]
   rw [e, hc]
   exact hr _
  ·unfold clOf
   simp only [hk, if_false]
   exact hr _
theorem closureFor_cl {scope : Scope} {env : Env} (h : ∀ y ∈ scope.names, y.2 = .free → ∃ c, env.cells.lookup y.1 = some c) : closureFor scope env = pure (clOf env.cells scope.names []) := by
 unfold closureFor
 have e := closure_eq (env := env) scope.names [] h
 first
  | exact e
  | (simp only [bind_pure]; exact e)
  | (rw [show (fun (r : List (Str × Addr)) => (pure r : Sem (List (Str × Addr)))) = pure from rfl]; simp only [bind_pure]; exact e)

theorem clOf_sub {cells : List (Str × Addr)} : ∀ (names : List (Str × NameKind)) (acc : List (Str × Addr)), (∀ y ∈ names, y.2 = .free → ∃ c, cells.lookup y.1 = some c) → (∀ y c, acc.lookup y = some c → cells.lookup y = some c) → ∀ y c, (clOf cells names acc).lookup y = some c → cells.lookup y = some c
 | [], acc, _, ha => ha
 | (n, k) :: r, acc, h, ha => by
  have hr : ∀ y ∈ r, y.2 = .free → ∃ c, cells.lookup y.1 = some c := fun y hy => h y (List.mem_cons_of_mem _ hy)
  unfold clOf
  split
  ·rename_i hk
   obtain ⟨c, hc⟩ := h (n, k) (List.mem_cons_self ..) (eq_of_beq hk)
   refine clOf_sub r _ hr fun y c' e => ?_
   rw [List.lookup_cons] at e
   cases hb : y == n with
   | true =>
    rw [hb] at e
    have : y = n := eq_of_beq hb
    subst this
    have hc' : cells.lookup y = some c := hc
    rw [hc'] at e ⊢
    exact e
   | false => rw [hb] at e; exact ha y c' e
  ·exact clOf_sub r acc hr ha
theorem clOf_has {cells : List (Str × Addr)} : ∀ (names : List (Str × NameKind)) (acc : List (Str × Addr)) (y : Str), ((y, NameKind.free) ∈ names ∨ (acc.lookup y).isSome = true) → ((clOf cells names acc).lookup y).isSome = true
 | [], acc, y, h => by
  rcases h with h | h
  ·cases h
  ·exact h
 | (n, k) :: r, acc, y, h => by
  unfold clOf
  split
  ·refine clOf_has r _ y ?_
   rcases h with h | h
   ·rcases List.mem_cons.mp h with e | e
    ·cases e
     exact .inr (by simp)
    ·exact .inl e
   ·refine .inr ?_
    rw [List.lookup_cons]
    cases y == n with
    | true => rfl
    | false => exact h
  ·rename_i hk
   refine clOf_has r acc y ?_
   rcases h with h | h
   ·rcases List.mem_cons.mp h with e | e
    ·cases e
     exact absurd rfl hk
    ·exact .inl e
   ·exact .inr h

noncomputable def compOk (sc scope : Scope) (N : List Str) (x : Str) (fr : List (Str × Nat)) : Bool :=
 (scope.kind == .function) && (sc.kind == .function) && scope.names.all (fun y => !(y.2 == .cell)) && scope.names.all (fun y => !(y.2 == .local) || scope.names.lookup y.1 == some .local) &&
 scope.names.all (fun y => !(y.2 == .free) || (sc.names.lookup y.1 == some .cell || sc.names.lookup y.1 == some .free)) && (scope.names.lookup x == some .local) &&
 fr.all (fun y => scope.names.lookup y.1 == some .free && scope.names.contains (y.1, .free) && (sc.names.lookup y.1 == some .cell || sc.names.lookup y.1 == some .free) && N[y.2]? == some y.1) && decide ((x :: fr.map (·.1)).Nodup)
structure CompOk (sc scope : Scope) (N : List Str) (x : Str) (fr : List (Str × Nat)) : Prop where
 kind : scope.kind = .function
 skind : sc.kind = .function
 cell : ∀ y ∈ scope.names, y.2 ≠ .cell
 loc : ∀ y ∈ scope.names, y.2 = .local → scope.names.lookup y.1 = some .local
 free : ∀ y ∈ scope.names, y.2 = .free → sc.names.lookup y.1 = some .cell ∨ sc.names.lookup y.1 = some .free
 hx : scope.names.lookup x = some .local
 frs : ∀ y ∈ fr, scope.names.lookup y.1 = some .free ∧ (y.1, NameKind.free) ∈ scope.names ∧ (sc.names.lookup y.1 = some .cell ∨ sc.names.lookup y.1 = some .free) ∧ N[y.2]? = some y.1
 nd : (x :: fr.map (·.1)).Nodup
theorem CompOk.of {sc scope : Scope} {N : List Str} {x : Str} {fr : List (Str × Nat)} (h : compOk sc scope N x fr = true) : CompOk sc scope N x fr := by
 unfold compOk at h
 simp only [Bool.and_eq_true, List.all_eq_true, Bool.or_eq_true, Bool.not_eq_true', beq_iff_eq, beq_eq_false_iff_ne, decide_eq_true_eq, List.contains_iff_mem, ne_eq] at h
 obtain ⟨⟨⟨⟨⟨⟨⟨h1, h2⟩, h3⟩, h4⟩, h5⟩, h6⟩, h7⟩, h8⟩ := h
 refine ⟨h1, h2, fun y hy => h3 y hy, fun y hy e => ?_, fun y hy e => ?_, h6, fun y hy => ?_, h8⟩
 ·rcases h4 y hy with q | q
  ·exact absurd e q
  ·exact q
 ·rcases h5 y hy with q | q
  ·exact absurd e q
  ·exact q
 ·obtain ⟨⟨⟨q1, q2⟩, q3⟩, q4⟩ := h7 y hy
  exact ⟨q1, q2, q3, q4⟩

noncomputable def compCx (X : Cx) (scope : Scope) (x : Str) (fr : List (Str × Nat)) (C : Addr) (s₀ : Shared) (H₀ : Hp) (fp : List Addr) : Cx :=
 { X with N := x :: fr.map (·.1), s₀ := s₀, H₀ := H₀, env := compEnvC scope (clOf X.env.cells scope.names []) C X.env, outer := X.stack, stack := X.stack, ex := fp, fn := fun _ => false, pn := [], xe := fun _ _ => False }
theorem lookup_relabel_free {env : Env} : ∀ {names : List (Str × NameKind)} {x : Str}, names.lookup x = some .free →
  (names.map fun (n, k) => if (k == NameKind.free && env.scope.kind == .function && env.kindOf n == some .cell) then (n, NameKind.cell) else (n, k)).lookup x = some .cell ∨
  (names.map fun (n, k) => if (k == NameKind.free && env.scope.kind == .function && env.kindOf n == some .cell) then (n, NameKind.cell) else (n, k)).lookup x = some .free
 | [], _, h => by simp at h
 | (n, k) :: r, x, h => by
  have ih := @lookup_relabel_free env r x
  show List.lookup x ((if (k == NameKind.free && env.scope.kind == .function && env.kindOf n == some .cell) = true then (n, NameKind.cell) else (n, k)) :: _) = _ ∨ List.lookup x ((if (k == NameKind.free && env.scope.kind == .function && env.kindOf n == some .cell) = true then (n, NameKind.cell) else (n, k)) :: _) = _
  cases hx : x == n with
  | true =>
   simp only [List.lookup_cons, hx] at h
   cases h
   split <;> simp [List.lookup_cons, hx]
  | false =>
   simp only [List.lookup_cons, hx] at h
   split <;> (simp only [List.lookup_cons, hx]; exact ih h)
theorem relabel_back {env : Env} : ∀ {names : List (Str × NameKind)} {x : Str} {kd : NameKind}, (∀ y ∈ names, y.2 ≠ .cell) →
  (names.map fun (n, k) => if (k == NameKind.free && env.scope.kind == .function && env.kindOf n == some .cell) then (n, NameKind.cell) else (n, k)).lookup x = some kd → (kd = .cell ∨ kd = .free) → (x, NameKind.free) ∈ names
 | [], _, _, _, h, _ => by simp at h
 | (n, k) :: r, x, kd, hc, h, hk => by
  have ih := @relabel_back env r x kd fun y hy => hc y (List.mem_cons_of_mem _ hy)
  change List.lookup x ((if (k == NameKind.free && env.scope.kind == .function && env.kindOf n == some .cell) = true then (n, NameKind.cell) else (n, k)) :: _) = _ at h
  cases hx : x == n with
  | true =>
   have e : x = n := eq_of_beq hx
   subst e
   split at h
   ·rename_i hq
    rw [Bool.and_eq_true, Bool.and_eq_true] at hq
    have : k = .free := eq_of_beq hq.1.1
    subst this
    exact List.mem_cons_self ..
   ·simp only [List.lookup_cons, hx] at h
    cases h
    rcases hk with rfl | rfl
    ·exact absurd rfl (hc (x, .cell) (List.mem_cons_self ..))
    ·exact List.mem_cons_self ..
  | false =>
   split at h <;> (simp only [List.lookup_cons, hx] at h; exact List.mem_cons_of_mem _ (ih h hk))
noncomputable def innerS (σ : St) (fr : List (Str × Nat)) (v : Option V) : St := v :: fr.map fun y => (σ[y.2]?).join
noncomputable def visS : Option Sl → Option Sl
 | some (.v d) => some (.v d)
 | _ => none
noncomputable def innerD (δ : DS) (fr : List (Str × Nat)) (v : Option Sl) : DS := v :: fr.map fun y => visS (δ[y.2]?).join

theorem comp_ok {X : Cx} {pins : List (Addr × Obj)} {σ : St} {H : Hp} {s s' : Shared} {scope : Scope} {x : Str} {fr : List (Str × Nat)} {C : Addr} {fp : List Addr} {m : Str → Option Value} (c : CompOk X.env.scope scope X.N x fr) (I : Inv X pins σ H s) (hf : ∀ b ∈ fp, FpOk X pins H b) (hfl : ∀ b ∈ fp, b < s.heap.objs.size)
  (hC : C = s.heap.objs.size) (hk : ∀ b o, s.heap.get? b = some o → s'.heap.get? b = some o) (hos : s'.os = s.os) (hgn : s'.gens = s.gens) (hn : s'.heap.Ns C m) :
  Inv (compCx X scope x fr C s H fp) [] (innerS σ fr none) H s' := by
 have okX := I.ok
 have hfree : ∀ y ∈ scope.names, y.2 = .free → ∃ d, X.env.cells.lookup y.1 = some d := fun y hy e => okX.has y.1 (c.free y hy e)
 have hsub := clOf_sub (cells := X.env.cells) scope.names [] hfree (fun y d e => by cases e)
 have hCs : s.heap.objs.size ≤ C := by rw [hC]; exact Nat.le_refl _
 refine ⟨⟨okX.mod, c.kind, okX.glob, okX.blt, hCs, fun y z d h1 h2 => okX.inj y z d (hsub y d h1) (hsub z d h2), fun y hy => ?_, fun y d h _ => (by cases h), okX.hd, okX.frames, .inl rfl, fun b hb => ⟨?_, fun y d e z => ?_⟩, I.bs, Nat.le_trans okX.bsz I.sz, fun b o e hb => ?_, fun b hb hz => ?_, I.stack, I.stkFree⟩,
  hos, (by rw [hgn]; exact I.bare), Un.kept hk, ⟨m, hn, fun i y v h1 h2 h3 => ?_⟩, fun y d e => ?_, ?_, fun y d e => I.freeC y d (hsub y d e), fun p hp => (by cases hp), I.hok.kept hk, ?_⟩
 ·have hy' : ∃ kd, (relabel scope X.env).names.lookup y = some kd ∧ (kd = .cell ∨ kd = .free) := by
   rcases hy with h | h
   ·exact ⟨_, h, .inl rfl⟩
   ·exact ⟨_, h, .inr rfl⟩
  obtain ⟨kd, h1, h2⟩ := hy'
  have hm := relabel_back (env := X.env) c.cell h1 h2
  exact Option.isSome_iff_exists.mp (clOf_has scope.names [] y (.inl hm))
 ·exact Nat.ne_of_lt (Nat.lt_of_lt_of_le (hfl b hb) hCs)
 ·exact (hf b hb).2.2.2.2.1 y d (hsub y d e) z
 ·have hb' := hf b hb
  rcases hb'.2.2.2.1 with z | z
  ·exact okX.noex b o e z
  ·exact absurd (Nat.lt_of_lt_of_le (Heap.lt_size e) (Nat.le_trans okX.bsz z)) (Nat.lt_irrefl _)
 ·have := I.stkSub b hz
  rcases List.mem_cons.mp this with e | e
  ·exact (hf b hb).2.1 e
  ·exact (hf b hb).2.2.1 e
 ·cases i with
  | zero => cases h2
  | succ j =>
   have h1' : (fr.map (·.1))[j]? = some y := h1
   have h2' : (fr.map fun y => (σ[y.2]?).join)[j]? = some (some v) := h2
   rw [List.getElem?_map] at h1' h2'
   cases q : fr[j]? with
   | none => rw [q] at h1'; cases h1'
   | some z =>
    rw [q] at h1' h2'
    cases h1'
    obtain ⟨q1, q2, q3, q4⟩ := c.frs z (List.mem_of_getElem? q)
    have hσ : σ[z.2]? = some (some v) := by
     have : (σ[z.2]?).join = some v := by simpa using h2'
     cases e : σ[z.2]? with
     | none => rw [e] at this; cases this
     | some o => rw [e] at this; cases o with
      | none => cases this
      | some w => cases this; rfl
    have vis : Vis X.env.scope z.1 := by rcases q3 with k | k; exact .inr (.inl k); exact .inr (.inr k)
    obtain ⟨mX, hnX, hl⟩ := I.loc
    obtain ⟨u, r, l⟩ := hl z.2 z.1 v q4 hσ vis
    refine ⟨u, r, .inr ⟨lookup_relabel_free q1, ?_⟩⟩
    rcases l with ⟨k, _⟩ | ⟨k, d, hd, hcell⟩
    ·have k' : X.env.scope.names.lookup z.1 = some .local := k
     rcases q3 with q3 | q3 <;> (rw [q3] at k'; cases k')
    ·obtain ⟨d', hd'⟩ := Option.isSome_iff_exists.mp (clOf_has (cells := X.env.cells) scope.names [] z.1 (.inl q2))
     have e := hsub z.1 d' hd'
     rw [hd] at e; cases e
     obtain ⟨o, ho, hdt⟩ := hcell
     exact ⟨d, hd', o, hk d o ho, hdt⟩
 ·obtain ⟨v, o, ho, hd⟩ := I.cell y d (hsub y d e)
  exact ⟨v, o, hk d o ho, hd⟩
 ·show H C = none
  rw [hC]; exact I.hok.fresh (Nat.le_refl _)
 ·show (innerS σ fr none).length = (x :: fr.map (·.1)).length
  simp [innerS]
end M

set_option Elab.async false
set_option linter.all false
set_option maxRecDepth 100000
set_option maxHeartbeats 4000000
namespace M
open PySem PySem.Spec PyProof.Rows L2
set_option autoImplicit false

noncomputable def compL (elt : D → Rs D) (tst : D → Rs Bool) : List D → Rs (List D)
 | [] => .ok []
 | d :: ds => match tst d with
  | .ok true => match elt d with
   | .ok e => match compL elt tst ds with
    | .ok r => .ok (e :: r)
    | _ => .bad
   | _ => .bad
  | .ok false => compL elt tst ds
  | _ => .bad
structure CTn where
 prog : Program
 w : World
 A : Around
 env : Env
 elt : Expr
 tgt : Expr
 ifs : List Expr
 it : Value
 acc : Value
 R : Result → Shared → Prop
 K : Shared → Prop
noncomputable def CTn.e (t : CTn) : Value → Shared → Prop := notedBy (model t.prog t.w) t.A t.env fun e s' => t.R (.error e) s'
noncomputable def CTn.add (t : CTn) : Value → Shared → Prop := fun x s => wpAny (model t.prog t.w) t.A (call (.builtin "list.append") [t.acc, x]) (fun _ s' => t.K s') t.e s
noncomputable def CTn.el (t : CTn) : Bool → Shared → Prop := fun ok s => if ok = true then wpAny (model t.prog t.w) t.A (eval t.elt t.env) t.add t.e s else t.K s
noncomputable def CTn.ts (t : CTn) : Unit → Shared → Prop := fun _ s => wpAny (model t.prog t.w) t.A (forIn t.ifs true fun c r => if r = true then do let ok ← isTrue c t.env (eval c t.env); pure (ForInStep.yield ok) else pure (ForInStep.yield r)) t.el t.e s
noncomputable def CTn.tg (t : CTn) (v : Value) : Unit → Shared → Prop := fun _ s => wpAny (model t.prog t.w) t.A (assign t.tgt t.env v) t.ts t.e s
noncomputable def CTn.got (t : CTn) : Option Value → Shared → Prop := fun r s => match r with
 | none => t.R (.ok .next) s
 | some v => wpAny (model t.prog t.w) t.A (letOwnedTupleGo t.tgt t.it v) (t.tg v) t.e s
theorem comp_loop {prog : Program} {w : World} {A : Around} {R : Result → Shared → Prop} {s : Shared} {elt target iter : Expr} {ifs : List Expr} {scope : Scope} {pos : Pos} {it acc : Value} {env : Env} (I : Nat → Shared → Prop)
  (turn : ∀ n s, I n s → wpAny (model prog w) A (pyNext it) (CTn.got ⟨prog, w, A, env, elt, target, ifs, it, acc, R, fun s' => ∃ m, m < n ∧ I m s'⟩) (CTn.e ⟨prog, w, A, env, elt, target, ifs, it, acc, R, fun s' => ∃ m, m < n ∧ I m s'⟩) s)
  (n : Nat) (h : I n s) : codeAny (model prog w) A (.compLoop (.ListComp elt [⟨target, iter, ifs, 0⟩] scope pos) 0 it acc env) R s := by
 refine codeAny_loop rfl I (fun n s hI => ?_) n h
 show wpAny _ A ((compTurn (.ListComp elt [⟨target, iter, ifs, 0⟩] scope pos) 0 it acc env).onRaise (fun x => do noteFrame x env; theTreesLotGoes x)) _ _ s
 refine wpAny_noted ?_
 rw [compTurn_list]
 refine wpAny_bind (wpAny_standAt (wpAny_bind (wpAny_mono (turn n s hI) (fun r s₁ h₁ => ?_) fun _ _ h' => h')))
 cases r with
 | none => exact wpAny_pure h₁
 | some v =>
  refine wpAny_bind (wpAny_mono h₁ (fun _ s₀ h₀ => ?_) fun _ _ h' => h')
  refine wpAny_bind (wpAny_mono h₀ (fun _ s₂ h₂ => wpAny_bind (wpAny_mono h₂ (fun ok s₃ h₃ => ?_) fun _ _ h' => h')) fun _ _ h' => h')
  cases ok with
  | false => exact wpAny_pure ⟨rfl, h₃⟩
  | true =>
   exact wpAny_bind (wpAny_bind (wpAny_mono h₃ (fun x s₄ h₄ => wpAny_bind (wpAny_mono h₄ (fun _ s₅ h₅ => wpAny_pure (wpAny_pure ⟨rfl, h₅⟩)) fun _ _ h' => h')) fun _ _ h' => h'))

inductive Tst (X : Cx) (scope : Scope) (x : Str) (fr : List (Str × Nat)) : List Expr → (DS → Rs Bool) → Prop
 | nil : Tst X scope x fr [] fun _ => .ok true
 | one {c : Expr} {g : DS → Rs Bool} (h : ∀ C s₀ H₀ fp B G₀, PT (compCx X scope x fr C s₀ H₀ fp) c (tT (compCx X scope x fr C s₀ H₀ fp) B G₀ g)) : Tst X scope x fr [c] g
theorem Tst.run {X : Cx} {scope : Scope} {x : Str} {fr : List (Str × Nat)} {ifs : List Expr} {g : DS → Rs Bool} (h : Tst X scope x fr ifs g) {C : Addr} {s₀ : Shared} {H₀ : Hp} {fp : List Addr} {pins : List (Addr × Obj)} {s : Shared} {σ : St} {B G₀ H G : Hp} {δ : DS} {b : Bool} {Q : Bool → Shared → Prop}
  (I : Inv (compCx X scope x fr C s₀ H₀ fp) pins σ H s) (R : Rel (compCx X scope x fr C s₀ H₀ fp) B G₀ σ H G δ) (e : g δ = .ok b) (hQ : ∀ s' H' G', Inv (compCx X scope x fr C s₀ H₀ fp) pins σ H' s' → Ext H G H' G' → Q b s') :
  wpAny (model X.prog X.w) X.A (forIn ifs true fun c r => if r = true then do let ok ← isTrue c (compCx X scope x fr C s₀ H₀ fp).env (eval c (compCx X scope x fr C s₀ H₀ fp).env); pure (ForInStep.yield ok) else pure (ForInStep.yield r)) Q (fun _ _ => False) s := by
 cases h with
 | nil =>
  cases e
  exact wpAny_tests_nil (hQ s H G I (Ext.refl R.ext.gh))
 | one h =>
  refine wpAny_tests_one (thn (h C s₀ H₀ fp B G₀ pins s σ H (fun b' H' => b' = b ∧ ∃ G', Ext H G H' G') I ⟨G, δ, R, ?_⟩) fun b' s' ⟨H', I', e1, G', e2⟩ => ?_)
  ·rw [e]; exact fun H' G' e => ⟨rfl, G', e⟩
  ·subst e1; exact hQ s' H' G' I' e2

noncomputable def bigR (ds : List D) (r : Rs (List D)) : Rs D := if ds.length ≤ 1000000 then (match r with
 | .ok es => .ok (.lst es)
 | _ => .bad) else .bad
theorem rel_inner {X : Cx} {B G₀ : Hp} {σ : St} {H G H1 G1 : Hp} {δ : DS} {Y : Cx} (hK : Y.K = X.K) (R : Rel X B G₀ σ H G δ) (gg : Same G G1) (gh : Same G1 H1) (fr : List (Str × Nat)) {d : D} {v : V} (hv : Is X.K G1 d v) : Rel Y (fun _ => none) G1 (innerS σ fr (some v)) H1 G1 (innerD δ fr (some (.v d))) := by
 have at_ : ∀ (j : Nat) (e : Sl), (innerD δ fr (some (.v d)))[j + 1]? = some (some e) → ∃ z d', fr[j]? = some z ∧ e = .v d' ∧ δ[z.2]? = some (some (.v d')) := fun j e q => by
  have q' : (fr.map fun y => visS (δ[y.2]?).join)[j]? = some (some e) := q
  rw [List.getElem?_map] at q'
  cases qz : fr[j]? with
  | none => rw [qz] at q'; cases q'
  | some z =>
   rw [qz] at q'
   have q2 : visS (δ[z.2]?).join = some e := by simpa using q'
   cases e1 : δ[z.2]? with
   | none => rw [e1] at q2; cases q2
   | some o =>
    rw [e1] at q2
    cases o with
    | none => cases q2
    | some sl =>
     cases sl with
     | v d' => cases q2; exact ⟨z, d', rfl, rfl, e1⟩
     | ow k ds => cases q2
 refine ⟨⟨fun b o e => (by cases e), Same.refl _, gh, fun _ _ e => .inl e⟩, by simp [innerS, innerD], fun i d' q => ?_, fun i kA ds q => ?_, fun i j kB kC ds es a q1 _ _ _ => ?_⟩
 ·cases i with
  | zero => cases q; exact ⟨v, rfl, by rw [hK]; exact hv⟩
  | succ j =>
   obtain ⟨z, d2, h1, h2, h3⟩ := at_ j _ q
   cases h2
   obtain ⟨w, e1, e2⟩ := R.val z.2 _ h3
   refine ⟨w, ?_, by rw [hK]; exact e2.same gg⟩
   show (fr.map fun y => (σ[y.2]?).join)[j]? = some (some w)
   rw [List.getElem?_map, h1]
   simp [e1]
 ·cases i with
  | zero => cases q
  | succ j => obtain ⟨z, d2, h1, h2, h3⟩ := at_ j _ q; cases h2
 ·cases i with
  | zero => cases q1
  | succ j => obtain ⟨z, d2, h1, h2, h3⟩ := at_ j _ q1; cases h2
structure COk (X : Cx) (pins : List (Addr × Obj)) (H : Hp) (C : Addr) : Prop where
 a : X.s₀.heap.objs.size ≤ C
 b : C ≠ X.env.locals
 c : ∀ x c, X.env.cells.lookup x = some c → c ≠ C
 d : ∀ p ∈ X.pn ++ pins, p.1 ≠ C
 e : H C = none
theorem inv_offC {X : Cx} {pins : List (Addr × Obj)} {σ : St} {H : Hp} {s : Shared} {C : Addr} {h7 : Heap} (I : Inv X pins σ H s) (k : COk X pins H C) (sb : Heap.SameBut C s.heap h7) : Inv X pins σ H { s with heap := h7 } := by
 have kp : ∀ b o, b ≠ C → s.heap.get? b = some o → h7.get? b = some o := fun b o hb e => (sb.2 b hb).trans e
 have un : Un (frs X.stack) [C] H H s.heap h7 := by
  refine ⟨fun b o e n hb hx => kp b o (fun z => hx (by simp [z])) e, fun b o e n hb hx => ⟨o.slots, kp b o (fun z => hx (by simp [z])) e⟩, fun b o e n _ => n, fun b o e hx => ⟨o, kp b o (fun z => hx (by simp [z])) e⟩, fun _ _ q => q, fun _ _ _ q => q, fun _ ps q => ⟨#[], by rw [q]; simp⟩⟩
 have hok : HOk X.prog X.w H h7 := fun b ob e => by
  refine (I.hok b ob e).stay (fun d o hd q => kp d o ?_ q) (fun _ q => q) fun _ _ q => q
  rintro rfl
  rcases hd with z | z
  ·rw [← z, k.e] at e; cases e
  ·rw [k.e] at z; cases z
 exact I.call' (s' := { s with heap := h7 }) rfl un hok I.bare fun b hb => by
  rw [List.mem_singleton.mp hb]
  exact ⟨.inr k.a, k.b, k.c, k.d⟩
inductive CompI (X : Cx) (Y : Cx) (fp : List Addr) (tn : Nat → Heap → Prop) (inn : Option V → St) (cl : List D → Rs (List D)) (H2 G2 : Hp) (Dl : Addr) (ds all : List D) (n : Nat) (s' : Shared) : Prop
 | mk (k : Nat) (vx : Option V) (H' G' : Hp) (ys : List V) (es rest : List D) (h1 : k ≤ ds.length) (h2 : n = ds.length - k) (h3 : Inv Y [] (inn vx) H' s') (h4 : tn k s'.heap) (h5 : ∀ b ∈ fp, H' b = none)
   (h6 : Ext H2 G2 H' G') (h7 : G' Dl = none) (h8 : H' Dl = some (.lst ys)) (h9 : IsL X.K G' es ys) (h10 : es.length ≤ k) (h11 : cl (ds.drop k) = .ok rest) (h12 : all = es ++ rest)
theorem comp_genO {X : Cx} {B G₀ : Hp} {elt iter : Expr} {x : Str} {px : Pos} {ifs : List Expr} {scope sc : Scope} {N : List Str} {pos : Pos} {f : DS → Rs (List D)} {fe : DS → Rs D} {gt : DS → Rs Bool} (fr : List (Str × Nat)) (hok : compOk sc scope N x fr = true) (hsc : X.env.scope = sc) (hN : X.N = N) (hcalm : X.calm = true)
  (hi : PI X (.Name x px) iter (tI X B G₀ f)) (ht : Tst X scope x fr ifs gt) (he : ∀ C s₀ H₀ fp B' G', PE (compCx X scope x fr C s₀ H₀ fp) elt (tE (compCx X scope x fr C s₀ H₀ fp) B' G' fe))
  (hs : ∀ x, foldedSetIterable iter X.env x = pure x)
  {use : Option (Value → Sem Unit)} {Post : Value → Shared → Prop} {Pd : D → Prop} {pins : List (Addr × Obj)} {s : Shared} {σ : St} {H G : Hp} {δ : DS} (I : Inv X pins σ H s) (R : Rel X B G₀ σ H G δ)
  (hw : (f δ >>= fun ds => bigR ds (compL (fun d => fe (innerD δ fr (some (.v d)))) (fun d => gt (innerD δ fr (some (.v d)))) ds)).wp (fun c => Xo X c σ H G) Pd)
  (fin : ∀ (ds' : List D) (ys : List V) (C Dl : Addr) (m : Str → Option Value) (s6 : Shared) (H5 G5 : Hp) (r : Flow), Pd (.lst ds') → Inv X pins σ H5 s6 → s6.heap.Ns C m → COk X pins H5 C → H Dl = none → Ext H G H5 G5 → G5 Dl = none → H5 Dl = some (.lst ys) → ys.length ≤ sizeLine → IsL X.K G5 ds' ys → compPost (model X.prog X.w) X.A X.xe use Post (.ref Dl) C (.ok r) s6) :
  wpAny (model X.prog X.w) X.A (comprehension (.ListComp elt [⟨.Name x px, iter, ifs, 0⟩] scope pos) scope X.env (firstIterPos [⟨.Name x px, iter, ifs, 0⟩] pos) (newList []) (firstAsync [⟨.Name x px, iter, ifs, 0⟩]) (firstIter [⟨.Name x px, iter, ifs, 0⟩] X.env) use) Post X.xe s := by
 subst hsc; subst hN
 have c := CompOk.of hok
 have hfree : ∀ y ∈ scope.names, y.2 = .free → ∃ d, X.env.cells.lookup y.1 = some d := fun y hy e => I.ok.has y.1 (c.free y hy e)
 refine wpAny_comprehension_free (use := use) rfl hs (closureFor_cl hfree) c.kind c.loc ?_
 show wpAny (model X.prog X.w) X.A (eval iter X.env) _ X.xe s
 rw [wp_bind] at hw
 refine thn (hi pins s σ H (fun J H2 => ∃ G2 ds, Ext H G H2 G2 ∧ ItD X J ds G2 ∧ (bigR ds (compL (fun d => fe (innerD δ fr (some (.v d)))) (fun d => gt (innerD δ fr (some (.v d)))) ds)).wp (fun c => Xo X c σ H G) Pd) I
  ⟨G, δ, R, Rs.wp.mono hw (fun _ x => x) fun ds q J H2 G2 e2 hJ => ⟨G2, ds, e2, hJ, q⟩⟩) fun v1 s1 h1 => thn h1 fun itv s2 h2 => ?_
 obtain ⟨it, fp, tn, J, H2, e, I2, T, st2, f2, G2, ds, e2, hJ, hq⟩ := h2
 subst e
 have hq : ds.length ≤ 1000000 ∧ ∃ all, compL (fun d => fe (innerD δ fr (some (.v d)))) (fun d => gt (innerD δ fr (some (.v d)))) ds = .ok all ∧ Pd (.lst all) := by
  unfold bigR at hq
  split at hq
  ·rename_i hl
   refine ⟨hl, ?_⟩
   cases e : compL (fun d => fe (innerD δ fr (some (.v d)))) (fun d => gt (innerD δ fr (some (.v d)))) ds with
   | ok all => rw [e] at hq; exact ⟨all, rfl, hq⟩
   | exc c => rw [e] at hq; exact hq.elim
   | bad => rw [e] at hq; exact hq.elim
  ·exact hq.elim
 obtain ⟨hlen, all, hall, hq⟩ := hq
 refine wpAny_newObj_type ?_ (Nat.zero_le _)
 -- the new list
 generalize hD : s2.heap.objs.size = Dl
 have I3 : Inv X pins σ (upd H2 Dl (.lst [])) { s2 with heap := s2.heap.push { cls := .type "list", dict := none, data := .seq ([] : List Value).toArray } } := by
  have := I2.lnew (ys := []) (its := []) (t' := s2.toks) .nil (Nat.zero_le _)
  rw [hD] at this
  exact this
 have hDn : H2 Dl = none := by rw [← hD]; exact I2.hok.fresh (Nat.le_refl _)
 generalize hs3 : ({ s2 with heap := s2.heap.push { cls := .type "list", dict := none, data := .seq ([] : List Value).toArray } } : Shared) = s3 at I3 ⊢
 have k23 : ∀ b o, s2.heap.get? b = some o → s3.heap.get? b = some o := fun b o e => by rw [← hs3]; exact Heap.get?_push_of_some _ e
 have f3 : ∀ b ∈ fp, FpOk X pins (upd H2 Dl (.lst [])) b := fun b hb => by
  obtain ⟨q0, q1, q2, q3, q4, q5⟩ := f2 b hb
  obtain ⟨o, ho, _⟩ := T.obj 0 _ st2 b hb
  refine ⟨?_, q1, q2, q3, q4, q5⟩
  rw [upd_ne (by rw [← hD]; exact Nat.ne_of_lt (Heap.lt_size ho))]
  exact q0
 have hfl : ∀ b ∈ fp, b < s3.heap.objs.size := fun b hb => by
  obtain ⟨o, ho, _⟩ := T.obj 0 _ st2 b hb
  exact Heap.lt_size (k23 b o ho)
 refine wpAny_newFunctionEnv c.cell (by intro y hy; cases hy) (fun h' hns hsb => ?_) c.kind
 have k34 : ∀ b o, s3.heap.get? b = some o → h'.get? b = some o := fun b o e => hsb.extBut b o (Nat.ne_of_lt (Heap.lt_size e)) (Heap.get?_push_of_some _ e)
 generalize hCd : s3.heap.objs.size = C at hns hsb
 show codeAny (model X.prog X.w) X.A (.compStart _ 0 (.ref it) (.ref Dl) (compEnvC scope (clOf X.env.cells scope.names []) C X.env)) _ _
 have IY : Inv (compCx X scope x fr C s3 (upd H2 Dl (.lst [])) fp) [] (innerS σ fr none) (upd H2 Dl (.lst [])) { s3 with heap := h', toks := s3.toks + ([] : List (Str × Value)).length } :=
  comp_ok c I3 f3 hfl hCd.symm k34 rfl rfl hns
 have st4 : tn 0 h' := T.keep 0 _ _ st2 fun b hb o e => k34 b o (k23 b o e)
 generalize hs4 : ({ s3 with heap := h', toks := s3.toks + ([] : List (Str × Value)).length } : Shared) = s4 at IY ⊢
 have st4 : tn 0 s4.heap := by rw [← hs4]; exact st4
 -- the loop
 have loop : codeAny (model X.prog X.w) X.A (.compLoop (.ListComp elt [⟨.Name x px, iter, ifs, 0⟩] scope pos) 0 (.ref it) (.ref Dl) (compEnvC scope (clOf X.env.cells scope.names []) C X.env)) (compPost (model X.prog X.w) X.A X.xe use Post (.ref Dl) C) s4 := by
  refine comp_loop (CompI X (compCx X scope x fr C s3 (upd H2 Dl (.lst [])) fp) fp tn (innerS σ fr) (compL (fun d => fe (innerD δ fr (some (.v d)))) (fun d => gt (innerD δ fr (some (.v d))))) H2 G2 Dl ds all) ?_ ds.length
   ⟨0, none, _, G2, [], [], all, Nat.zero_le _, rfl, IY, st4, fun b hb => (f3 b hb).1, Ext.own e2.gh hDn, e2.gh.free hDn, upd_same, rfl, Nat.le_refl _, hall, rfl⟩
  rintro n s5 ⟨k, vx, H5, G5, ys, es, rest, hk, rfl, I5, st5, fr5, e5, gD5, hD5, hL5, hz5, hr5, ha5⟩
  have f5 : ∀ {H' : Hp}, (∀ b ∈ fp, H' b = none) → ∀ {pins' : List (Addr × Obj)}, (∀ p ∈ pins', p.1 ∉ fp) → ∀ b ∈ fp, FpOk (compCx X scope x fr C s3 (upd H2 Dl (.lst [])) fp) pins' H' b := fun {H'} hn {pins'} hp b hb => by
   obtain ⟨q1, q2⟩ := IY.ok.exf b hb
   exact ⟨hn b hb, q1, IY.ok.exfs b hb, .inl hb, q2, fun p hp' z => hp p (by simpa [compCx] using hp') (z ▸ hb)⟩
  have nopins : ∀ p ∈ ([] : List (Addr × Obj)), p.1 ∉ fp := fun p hp => by cases hp
  obtain ⟨j1, j2⟩ := hJ H5 G5 e5.gg e5.gh
  by_cases hlt : k < ds.length
  ·have hd : ds[k]? = some ds[k] := List.getElem?_eq_getElem hlt
   obtain ⟨go, yl⟩ := j1 k _ hd
   rw [List.drop_eq_getElem_cons hlt] at hr5
   refine wpAny_mono (T.item (compCx X scope x fr C s3 (upd H2 Dl (.lst [])) fp) rfl rfl rfl hcalm k [] s5 _ H5 (fun _ _ => False) I5 (f5 fr5 nopins) st5 go) (fun r s6 ⟨u, hr, h6⟩ => ?_) fun _ _ z => z.elim
   subst hr
   refine wpAny_mono h6 (fun _ s7 ⟨xv, H7, I7, r7, y7, st7, fr7⟩ => ?_) fun _ _ z => z.elim
   obtain ⟨G7, e7, i7⟩ := yl xv H7 y7
   have I7' := I7.pinned (f5 fr7 nopins) (T.obj _ _ st7)
   -- the target
   have hg : PG (compCx X scope x fr C s3 (upd H2 Dl (.lst [])) fp) (.Name x px) (gName 0) := pg_name c.nd rfl (.inl (lookup_relabel_local c.hx)) (.inr (lookup_relabel_local c.hx))
   refine wpAny_mono (hg _ s7 _ H7 xv u (fun σ' H' => σ' = innerS σ fr (some xv) ∧ H' = H7) I7' r7 ⟨by simp [innerS], rfl⟩) (fun _ s8 ⟨σ8, H8, I8, hσ8, hH8⟩ => ?_) fun _ _ z => z.elim
   subst hσ8; subst hH8
   have R8 := rel_inner (X := X) (Y := compCx X scope x fr C s3 (upd H2 Dl (.lst [])) fp) rfl (R.mono e2) (e5.gg.trans e7.gg) e7.gh fr i7
   -- the test
   unfold compL at hr5
   have done : ∀ {s9 : Shared} {H9 G9 : Hp} {ys9 : List V} {es9 : List D}, Inv (compCx X scope x fr C s3 (upd H2 Dl (.lst [])) fp) ([] ++ pinsAt fp s7.heap) (innerS σ fr (some xv)) H9 s9 → Ext H2 G2 H9 G9 → G9 Dl = none → H9 Dl = some (.lst ys9) → IsL X.K G9 es9 ys9 → es9.length ≤ k + 1 → ∀ rest9,
     compL (fun d => fe (innerD δ fr (some (.v d)))) (fun d => gt (innerD δ fr (some (.v d)))) (ds.drop (k + 1)) = .ok rest9 → all = es9 ++ rest9 → ∃ m, m < ds.length - k ∧ CompI X (compCx X scope x fr C s3 (upd H2 Dl (.lst [])) fp) fp tn (innerS σ fr) (compL (fun d => fe (innerD δ fr (some (.v d)))) (fun d => gt (innerD δ fr (some (.v d))))) H2 G2 Dl ds all m s9 := fun {s9 H9 G9 ys9 es9} I9 x1 x2 x3 x4 x5 rest9 x6 x7 => by
    refine ⟨ds.length - (k + 1), by omega, k + 1, some xv, H9, G9, ys9, es9, rest9, hlt, rfl, I9.unpinned, T.keep _ _ _ st7 fun b hb o e => (I9.pin (b, o) (List.mem_append_right _ (List.mem_append_right _ (mem_pinsAt hb e)))).1, fun b hb => ?_, x1, x2, x3, x4, x5, x6, x7⟩
    obtain ⟨o, e, d⟩ := T.obj _ _ st7 b hb
    exact (I9.pin (b, o) (List.mem_append_right _ (List.mem_append_right _ (mem_pinsAt hb e)))).2.1
   have keepD : ∀ {Ha Ga Hb Gb : Hp}, Ext Ha Ga Hb Gb → Ga Dl = none → (∃ o, Ha Dl = some o) → Gb Dl = none := fun {Ha Ga Hb Gb} e g ⟨o, h⟩ => by
    cases q : Gb Dl with
    | none => rfl
    | some z =>
     rcases e.new Dl z q with w | w
     ·rw [g] at w; cases w
     ·rw [h] at w; cases w
   have e57 := e5.trans e7
   have gD7 := keepD e7 gD5 ⟨_, hD5⟩
   have hD7 := e7.hh _ _ hD5
   cases qt : gt (innerD δ fr (some (.v ds[k]))) with
   | exc cc => rw [qt] at hr5; cases hr5
   | bad => rw [qt] at hr5; cases hr5
   | ok b =>
    rw [qt] at hr5
    refine wpAny_mono (ht.run I8 R8 qt (Q := fun ok s9 => ok = b ∧ ∃ H9 G9, Inv (compCx X scope x fr C s3 (upd H2 Dl (.lst [])) fp) ([] ++ pinsAt fp s7.heap) (innerS σ fr (some xv)) H9 s9 ∧ Ext H8 G7 H9 G9) fun s9 H9 G9 I9 e9 => ⟨rfl, H9, G9, I9, e9⟩) (fun ok s9 ⟨hok9, H9, G9, I9, e9⟩ => ?_) fun _ _ z => z.elim
    subst hok9
    have gD9 := keepD e9 gD7 ⟨_, hD7⟩
    have hD9 := e9.hh _ _ hD7
    cases ok with
    | false => exact done I9 (e57.trans e9) gD9 hD9 (hL5.same (e7.gg.trans e9.gg)) (by omega) rest hr5 ha5
    | true =>
     dsimp only at hr5
     cases qe : fe (innerD δ fr (some (.v ds[k]))) with
     | exc cc => rw [qe] at hr5; cases hr5
     | bad => rw [qe] at hr5; cases hr5
     | ok ev =>
      rw [qe] at hr5
      dsimp only at hr5
      cases qr : compL (fun d => fe (innerD δ fr (some (.v d)))) (fun d => gt (innerD δ fr (some (.v d)))) (ds.drop (k + 1)) with
      | exc cc => rw [qr] at hr5; cases hr5
      | bad => rw [qr] at hr5; cases hr5
      | ok rest9 =>
       rw [qr] at hr5
       cases hr5
       have R9 := R8.mono e9
       refine wpAny_mono (he C s3 (upd H2 Dl (.lst [])) fp (fun _ => none) G7 _ s9 _ H9 (fun v H' => ∃ G', Ext H9 G9 H' G' ∧ Is X.K G' ev v) I9 ⟨G9, _, R9, ?_⟩) (fun yv s10 ⟨v10, H10, I10, r10, G10, e10, i10⟩ => ?_) fun _ _ z => z.elim
       ·rw [qe]; exact fun v H' G' e i => ⟨G', e, i⟩
       have hD10 := e10.hh _ _ hD9
       have gD10 := keepD e10 gD9 ⟨_, hD9⟩
       have hl10 : ys.length < sizeLine := by
        have := hL5.length
        have h1 : (1000000 : Nat) < sizeLine := by decide
        omega
       refine wpAny_mono (mt_append (X := compCx X scope x fr C s3 (upd H2 Dl (.lst [])) fp) _ s10 _ H10 (.ref Dl) [v10] (.ref Dl) [yv] (fun _ H' => H' = upd H10 Dl (.lst (ys ++ [v10]))) I10 rfl (.cons r10 .nil) ⟨Dl, ys, v10, rfl, rfl, hD10, hl10, rfl⟩) (fun _ s11 ⟨_, H11, I11, _, hH11⟩ => ?_) fun _ _ z => z.elim
       subst hH11
       have e210 := (e57.trans e9).trans e10
       have e11 : Ext H2 G2 (upd H10 Dl (.lst (ys ++ [v10]))) G10 := ⟨fun b o q => by rw [upd_ne (ne_of_none q hDn)]; exact e210.hh b o q, e210.gg, fun b o q => by rw [upd_ne (ne_of_none q gD10)]; exact e210.gh b o q, e210.new⟩
       refine done I11 e11 gD10 upd_same ((hL5.same (e7.gg.trans (e9.gg.trans e10.gg))).append (IsL.one i10)) ?_ rest9 qr ?_
       ·rw [List.length_append]; simp only [List.length_singleton]; omega
       ·rw [ha5]; simp
  ·have hkl : k = ds.length := by omega
   subst hkl
   refine wpAny_mono (T.done (compCx X scope x fr C s3 (upd H2 Dl (.lst [])) fp) rfl rfl rfl hcalm _ [] s5 _ H5 (fun _ _ => False) I5 (f5 fr5 nopins) st5 j2) (fun r s6 ⟨hr, I6⟩ => ?_) fun _ _ z => z.elim
   subst hr
   rw [List.drop_length] at hr5
   cases hr5
   rw [List.append_nil] at ha5
   subst ha5
   obtain ⟨m6, hn6, _⟩ := I6.loc
   have lt3 : ∀ b o, s3.heap.get? b = some o → b ≠ C := fun b o e => by rw [← hCd]; exact Nat.ne_of_lt (Heap.lt_size e)
   have hCn : H5 C = none := I6.free
   have I7 : Inv X pins σ H5 s6 := I3.call' (s' := s6) I6.os I6.base I6.hok I6.bare fun b hb => by
    obtain ⟨q0, q1, q2, q3, q4, q5⟩ := f3 b hb
    exact ⟨q3, q1, q4, q5⟩
   have cok : COk X pins H5 C := by
    refine ⟨Nat.le_trans I3.sz (Nat.le_of_eq hCd), ?_, fun y c hc => ?_, fun p hp => ?_, hCn⟩
    ·obtain ⟨m3, hm3, _⟩ := I3.loc
     rw [← hCd]; exact Nat.ne_of_gt hm3.lt
    ·obtain ⟨w, hc3⟩ := I3.cell y c hc
     obtain ⟨o, ho, _⟩ := hc3
     exact lt3 c o ho
    ·exact lt3 p.1 p.2 (I3.pin p hp).1
   have gh5 := e5.gh
   refine fin _ ys C Dl m6 s6 H5 G5 _ hq I7 hn6 cok (e2.hh.free hDn) (e2.trans e5) gD5 hD5 ?_ hL5
   have := hL5.length
   have h1 : (1000000 : Nat) < sizeLine := by decide
   omega
 exact codeAny_compStart_list loop (T.self X.A 0 s4 _ _ st4 loop)
theorem comp_gen {X : Cx} {B G₀ : Hp} {elt iter : Expr} {x : Str} {px : Pos} {ifs : List Expr} {scope sc : Scope} {N : List Str} {pos : Pos} {f : DS → Rs (List D)} {fe : DS → Rs D} {gt : DS → Rs Bool} (fr : List (Str × Nat)) (hok : compOk sc scope N x fr = true) (hsc : X.env.scope = sc) (hN : X.N = N) (hcalm : X.calm = true)
  (hi : PI X (.Name x px) iter (tI X B G₀ f)) (ht : Tst X scope x fr ifs gt) (he : ∀ C s₀ H₀ fp B' G', PE (compCx X scope x fr C s₀ H₀ fp) elt (tE (compCx X scope x fr C s₀ H₀ fp) B' G' fe))
  (hs : ∀ x, foldedSetIterable iter X.env x = pure x)
  {use : Option (Value → Sem Unit)} {Post : Value → Shared → Prop} {Pd : D → Prop} {pins : List (Addr × Obj)} {s : Shared} {σ : St} {H G : Hp} {δ : DS} (I : Inv X pins σ H s) (R : Rel X B G₀ σ H G δ)
  (hw : (f δ >>= fun ds => bigR ds (compL (fun d => fe (innerD δ fr (some (.v d)))) (fun d => gt (innerD δ fr (some (.v d)))) ds)).wp (fun c => Xo X c σ H G) Pd)
  (fin : ∀ (d : D) (C Dl : Addr) (m : Str → Option Value) (s6 : Shared) (H5 G5 : Hp) (r : Flow), Pd d → Inv X pins σ H5 s6 → s6.heap.Ns C m → COk X pins H5 C → Ext H G H5 G5 → Is X.K G5 d (.ref Dl) → compPost (model X.prog X.w) X.A X.xe use Post (.ref Dl) C (.ok r) s6) :
  wpAny (model X.prog X.w) X.A (comprehension (.ListComp elt [⟨.Name x px, iter, ifs, 0⟩] scope pos) scope X.env (firstIterPos [⟨.Name x px, iter, ifs, 0⟩] pos) (newList []) (firstAsync [⟨.Name x px, iter, ifs, 0⟩]) (firstIter [⟨.Name x px, iter, ifs, 0⟩] X.env) use) Post X.xe s := by
 refine comp_genO fr hok hsc hN hcalm hi ht he hs I R hw fun ds' ys C Dl m s6 H5 G5 r hq I7 hn cok h0 e gD hD hz hL => ?_
 refine fin _ C Dl m s6 H5 (upd G5 Dl (.lst ys)) r hq I7 hn cok ⟨e.hh, e.gg.trans (same_upd gD _), fun b o q => ?_, fun b o q => ?_⟩ ⟨Dl, ys, rfl, .of upd_same, hz, hL.same (same_upd gD _)⟩
 ·by_cases hb : b = Dl
  ·subst hb; rw [upd_same] at q; cases q; exact hD
  ·rw [upd_ne hb] at q; exact e.gh b o q
 ·by_cases hb : b = Dl
  ·subst hb; exact .inr h0
  ·rw [upd_ne hb] at q; exact e.new b o q
theorem pd_comp {X : Cx} {B G₀ : Hp} {elt iter : Expr} {x : Str} {px : Pos} {ifs : List Expr} {scope sc : Scope} {N : List Str} {pos : Pos} {f : DS → Rs (List D)} {fe : DS → Rs D} {gt : DS → Rs Bool} (fr : List (Str × Nat)) (hok : compOk sc scope N x fr = true) (hsc : X.env.scope = sc) (hN : X.N = N) (hcalm : X.calm = true)
  (hi : PI X (.Name x px) iter (tI X B G₀ f)) (ht : Tst X scope x fr ifs gt) (he : ∀ C s₀ H₀ fp B' G', PE (compCx X scope x fr C s₀ H₀ fp) elt (tE (compCx X scope x fr C s₀ H₀ fp) B' G' fe))
  (hs : ∀ x, foldedSetIterable iter X.env x = pure x := by intro _; rfl) :
  PE X (.ListComp elt [⟨.Name x px, iter, ifs, 0⟩] scope pos) (tE X B G₀ fun δ => f δ >>= fun ds => bigR ds (compL (fun d => fe (innerD δ fr (some (.v d)))) (fun d => gt (innerD δ fr (some (.v d)))) ds)) := by
 intro pins s σ H Q I ⟨G, δ, R, hw⟩
 rw [eval_ListComp]
 refine comp_gen (use := none) fr hok hsc hN hcalm hi ht he hs I R hw fun d C Dl m s6 H5 G5 r hq I6 hn k e5 i5 => ?_
 exact ⟨m, hn, fun h7 sb7 => ⟨.ref Dl, H5, inv_offC I6 k sb7, rfl, hq _ H5 G5 e5 i5⟩⟩
end M

set_option Elab.async false
set_option linter.all false
set_option maxRecDepth 100000
set_option maxHeartbeats 4000000
namespace M
open PySem PySem.Spec PyProof.Rows L2
set_option autoImplicit false

noncomputable def vsl (d : D) : Option Sl := some (.v d)
noncomputable def fin : Out → Rs D
 | .nx _ => .ok .non
 | .rt d => .ok d
 | _ => .bad
noncomputable def fnR (n m : Nat) (F : DS → Out) (ds : List D) : Rs D := if ds.length = n then fin (F (ds.map vsl ++ List.replicate m none)) else .bad
noncomputable def spD (K : PySem.W.Frag) (g : List D → Rs D) (n : Nat) : Sp := fun vs H Q _ => ∃ G ds, Same G H ∧ IsL K G ds vs ∧ ds.length = n ∧ (g ds).wp (fun _ => False) fun d => ∀ v H' G', Ext H G H' G' → Is K G' d v → Q v H'

theorem rel_start {X : Cx} {H G : Hp} {ds : List D} {vs : List V} (gh : Same G H) (i : IsL X.K G ds vs) (m : Nat) : Rel X H G (vs.map some ++ List.replicate m none) H G (ds.map vsl ++ List.replicate m none) := by
 have hl := i.length
 have key : ∀ (j : Nat) (e : Sl), (ds.map vsl ++ List.replicate m none)[j]? = some (some e) → ∃ d, ds[j]? = some d ∧ e = .v d := fun j e q => by
  by_cases hj : j < ds.length
  ·rw [List.getElem?_append_left (by simpa using hj), List.getElem?_map, List.getElem?_eq_getElem hj] at q
   cases q
   exact ⟨_, List.getElem?_eq_getElem hj, rfl⟩
  ·rw [List.getElem?_append_right (by simpa using Nat.not_lt.mp hj), List.getElem?_replicate] at q
   split at q <;> cases q
 refine ⟨Ext.refl gh, by simp [hl], fun j d q => ?_, fun j kA es q => ?_, fun j k kB kC es fs a q _ _ _ => ?_⟩
 ·obtain ⟨d', h1, h2⟩ := key j _ q
  cases h2
  obtain ⟨v, e1, e2⟩ := i.get h1
  refine ⟨v, ?_, e2⟩
  have hj : j < vs.length := (List.getElem?_eq_some_iff.mp e1).1
  rw [List.getElem?_append_left (by simpa using hj), List.getElem?_map, e1]; rfl
 ·obtain ⟨d', h1, h2⟩ := key j _ q; cases h2
 ·obtain ⟨d', h1, h2⟩ := key j _ q; cases h2

structure Fn (P : Program) (w : World) (K : PySem.W.Frag) (mg : Str → Option Value) (base : Heap) (x : Str) (k n : Nat) (g : List D → Rs D) : Prop where
 ex : ∃ (f : Addr) (fd : FuncData) (ps : List Str), FnOk P w K mg base CX0 k f fd ps (spD K g n) ∧ Binds K fd ps [] ∧ mg x = some (.ref f) ∧ PySem.W.keepIn K (.ref f) = true
 len : ∀ ds, ds.length ≠ n → g ds = .bad
 ne : ∀ ds c, g ds ≠ .exc c

section
variable {P : Program} {w : World} {K : PySem.W.Frag} {mg : Str → Option Value} {base : Heap}
theorem fnR_len (n m : Nat) (F : DS → Out) : ∀ ds : List D, ds.length ≠ n → fnR n m F ds = .bad := fun ds h => by unfold fnR; rw [if_neg h]
theorem fnR_ne (n m : Nat) (F : DS → Out) : ∀ (ds : List D) (c : Str), fnR n m F ds ≠ .exc c := fun ds c h => by
 unfold fnR at h
 split at h
 ·unfold fin at h
  split at h <;> cases h
 ·cases h
theorem def_fn {x qual : Str} {st : Stmt} {f : Addr} {fd : FuncData} {N ps : List Str} {k m : Nat} {Fb : DS → Out} (F : Fun K x qual st f fd) (S : FnScope N ps (defScope st)) (hm : N.length - ps.length = m)
  (hbody : ∀ (cdv : Value) (A : Around) (outer : List Env) (s : Shared) (H : Hp) (E : XK) (G₀ : Hp), Room k (A.deeper (envOfC qual (defScope st) s.heap.objs.size f cdv)) →
   PSs (cxOf CX0 P w K mg base N qual (defScope st) f cdv A outer s H E).nox (defBody st) (tS (cxOf CX0 P w K mg base N qual (defScope st) f cdv A outer s H E).nox H G₀ Fb)) : FnOk P w K mg base CX0 (k + 1) f fd ps (spD K (fnR ps.length m Fb) ps.length) := by
 refine F.ok S (fun vs H Q E ⟨G, ds, gh, i, hl, _⟩ => by rw [i.length, hl]) fun cdv A outer s H vs Q E hr ⟨G, ds, gh, i, hl, hw⟩ => ?_
 refine ⟨_, hbody cdv A outer s H E G hr, G, ds.map vsl ++ List.replicate m none, ?_, ?_⟩
 ·have := rel_start (X := (cxOf CX0 P w K mg base N qual (defScope st) f cdv A outer s H E).nox) gh i m
  unfold L2.start
  rw [i.length, hl, hm]
  exact this
 ·unfold fnR at hw
  rw [if_pos hl] at hw
  cases q : Fb (ds.map vsl ++ List.replicate m none) with
  | nx δ => rw [q] at hw; exact fun σ H' G' R => hw .non H' G' R.ext rfl
  | rt d => rw [q] at hw; exact fun v H' G' e i => hw v H' G' e i
  | bk δ => rw [q] at hw; exact hw.elim
  | ct δ => rw [q] at hw; exact hw.elim
  | exc c δ => rw [q] at hw; exact hw.elim
  | bad => rw [q] at hw; exact hw.elim
theorem def_ok {x qual : Str} {st : Stmt} {f : Addr} {fd : FuncData} {N ps : List Str} {k m : Nat} {Fb : DS → Out} (F : Fun K x qual st f fd) (S : FnScope N ps (defScope st)) (hm : N.length - ps.length = m)
  (hb : ∀ (kV doc pm : Value) (an : Option Addr) (cdv ct : Value) (us : List Value), us.length = ps.length → bindArgs (PySem.W.fnOf x qual (defArgs st) (defBody st) (defScope st) .none kV doc pm an cdv ct) ⟨us, []⟩ = pure (ps.zip us))
  (hx : mg x = some (.ref f))
  (hbody : ∀ (cdv : Value) (A : Around) (outer : List Env) (s : Shared) (H : Hp) (E : XK) (G₀ : Hp), Room k (A.deeper (envOfC qual (defScope st) s.heap.objs.size f cdv)) →
   PSs (cxOf CX0 P w K mg base N qual (defScope st) f cdv A outer s H E).nox (defBody st) (tS (cxOf CX0 P w K mg base N qual (defScope st) f cdv A outer s H E).nox H G₀ Fb)) : Fn P w K mg base x (k + 1) ps.length (fnR ps.length m Fb) :=
 ⟨⟨f, fd, ps, def_fn F S hm hbody, F.binds hb, hx, F.kp⟩, fnR_len _ _ _, fnR_ne _ _ _⟩
noncomputable def spLaw (K : PySem.W.Frag) : Sp := fun vs H Q _ => ∃ (a : Addr) (ns : List Int), vs = [.ref a] ∧ SqL K H a (ns.map V.int) ∧ ns.length ≤ 63 ∧ ∀ H', Q (.bl true) H'
theorem law_fn {f : Addr} {fd : FuncData} {ps : List Str} {k : Nat} {g : List D → Rs D} (h : FnOk P w K mg base CX0 k f fd ps (spD K g 1)) (hg : ∀ ns : List Int, ns.length ≤ 63 → g [.lst (ns.map D.int)] = .ok (.bl true)) : FnOk P w K mg base CX0 k f fd ps (spLaw K) := by
 refine h.imp fun vs H Q E ⟨a, ns, e, hS, hl, q⟩ => ?_
 subst e
 refine ⟨H, [.lst (ns.map D.int)], Same.refl _, ⟨.ref a, [], rfl, ⟨a, ns.map V.int, rfl, hS, ?_, isL_ints ns⟩, rfl⟩, rfl, ?_⟩
 ·rw [List.length_map]; exact Nat.le_trans hl (by decide)
 ·rw [hg ns hl]
  intro v H' G' e i
  cases (show v = .bl true from i)
  exact q H'
theorem walk {l : PySem.W.OpenLaw} {q : Program} {loose : List Str} {XP : (Str → Option Value) → Heap → Prop} {YP : World → Heap → Prop} {d : DefRec} {K : Params → PySem.W.Frag} {k : Nat} {x : Str} (hn : l.most = some 63) (hk : Room k callerA) (hdf : d.params.defaults = [])
  (hY : ∀ (w : World) (h : Heap), YP w h → (K w.params).In h)
  (F : ∀ (w : World) (mg : Str → Option Value) (fa : Addr) (h : Heap), (K w.params).In h → h.Ns mainGlobals mg → mg d.name = some (.ref fa) →
   ∃ fd : FuncData, (∀ (s : Shared) (u : Value), BindsTo s fd ⟨[u], []⟩ [(x, u)]) ∧ ∀ base : Heap, (K w.params).In base → base.Ns mainGlobals mg → FnOk l.prog w (K w.params) mg base CX0 k fa fd [x] (spLaw (K w.params))) :
  PySem.W.WalkO q loose XP YP l.row.toRowW d [] (fun f vs => PySem.call f vs) :=
 L2.walk_of (n := 63) (k := k) (x := x) (CX := fun _ => CX0) (sp := fun w => spLaw (K w.params)) hn (by decide) hdf hk hY F (fun _ _ a ns hl _ hS => ⟨a, ns, rfl, hS, hl, fun _ => rfl⟩) fun _ _ _ _ _ z => z
end
section
variable {X : Cx} {B G₀ : Hp} {x : Str} {k n : Nat} {g : List D → Rs D} {e : Expr} {es : List Expr} {fr : DS → Rs (List D)} {p pos : Pos}
theorem pd_call (F : Fn X.prog X.w X.K X.mg X.base x k n g) (hr : Room k X.A) (ha : PA X (e :: es) (tAs X B G₀ fr)) (hg : Gl X x := by rfl) (hdb : (x == ("__debug__" : Str)) = false := by decide)
  (he : starEach (e :: es) X.env = (false, eval e X.env) :: starEach es X.env := by rfl) (hpl : (backTo pos (starEach es X.env)).any (·.1) = false := by rfl) :
  PE X (.Call (.Name x p) (e :: es) [] pos) (tE X B G₀ fun δ => fr δ >>= g) := by
 obtain ⟨⟨f, fd, ps, hF, hb, hm, hk⟩, hlen, hne⟩ := F
 refine pd_of (pe_call hF hr hg hm hk hb .nil pass0 ha hdb he hpl) fun σ H G δ Q R hw => ?_
 refine ⟨G, δ, R, ?_⟩
 unfold W at hw
 rw [wp_bind] at hw
 refine Rs.wp.mono hw (fun _ x => x) fun ds q vs H1 G1 e1 i1 => ?_
 by_cases hl : ds.length = n
 ·refine ⟨G1, ds, e1.gh, by rw [List.append_nil]; exact i1, hl, ?_⟩
  cases hgd : g ds with
  | ok d => rw [hgd] at q; exact fun v H' G' e' i' => q v H' G' (e1.trans e') i'
  | exc c => rw [hgd] at q; exact (hne ds c hgd).elim
  | bad => rw [hgd] at q; exact q.elim
 ·rw [hlen ds hl] at q; exact q.elim
end
end M

set_option Elab.async false
set_option linter.all false
set_option maxRecDepth 100000
set_option maxHeartbeats 4000000
namespace M
open PySem PySem.Spec PyProof.Rows L2
set_option autoImplicit false

noncomputable abbrev FE := DS → Rs D
noncomputable abbrev FT := DS → Rs Bool
noncomputable abbrev FA := DS → Rs (List D)
noncomputable abbrev FS := DS → Out
noncomputable def bin2 (g : D → D → Rs D) (fa fb : FE) : FE := fun δ => fa δ >>= fun x => fb δ >>= fun y => g x y
noncomputable def cmpT (g : D → D → Rs D) (fa fb : FE) : FT := fun δ => fa δ >>= fun x => fb δ >>= fun y => g x y >>= fun d => truR d
noncomputable def valT (fa : FE) : FT := fun δ => fa δ >>= fun d => truR d
noncomputable def notT (ga : FT) : FT := fun δ => ga δ >>= fun b => .ok (!b)
noncomputable def orT (ga gb : FT) : FT := fun δ => ga δ >>= fun c => if c = true then .ok true else gb δ
noncomputable def andV (fa fb : FE) : FE := fun δ => fa δ >>= fun x => truR x >>= fun k => if k = true then fb δ else .ok x
noncomputable def notV (fa : FE) : FE := fun δ => fa δ >>= fun x => truR x >>= fun k => .ok (.bl (!k))
noncomputable def negR : D → Rs D
 | .int i => .ok (.int (-i))
 | _ => .bad
noncomputable def negV (fa : FE) : FE := fun δ => fa δ >>= negR
noncomputable def chainR (z : D) (r : Rs D) : Rs D := match z with
 | .bl true => r
 | .bl false => .ok (.bl false)
 | _ => .bad
noncomputable def chainV (g g' : D → D → Rs D) (fa fb fc : FE) : FE := fun δ => fa δ >>= fun x => fb δ >>= fun y => g x y >>= fun z => chainR z (fc δ >>= fun w => g' y w)
noncomputable def a0 : FA := fun _ => .ok []
noncomputable def aC (fe : FE) (fr : FA) : FA := fun δ => fe δ >>= fun d => fr δ >>= fun ds => .ok (d :: ds)
noncomputable def appF (g : List D → Rs D) (fr : FA) : FE := fun δ => fr δ >>= g
noncomputable def isiF (T : String) (fe : FE) : FE := fun δ => fe δ >>= fun d => isiR T d
noncomputable def itF (fe : FE) : FA := fun δ => fe δ >>= itR
noncomputable def rng1R : List D → Rs (List D)
 | [d] => rngR [d]
 | _ => .bad
noncomputable def rng1 (fr : FA) : FA := fun δ => fr δ >>= rng1R
noncomputable def tt : FT := fun _ => .ok true
noncomputable def compF (fr : List (Str × Nat)) (f : FA) (fe : FE) (gt : FT) : FE := fun δ => f δ >>= fun ds => bigR ds (compL (fun d => fe (innerD δ fr (some (.v d)))) (fun d => gt (innerD δ fr (some (.v d)))) ds)
noncomputable def exprS (fe : FE) : FS := fun δ => (fe δ).out δ fun _ => .nx δ
noncomputable def retS (fe : FE) : FS := fun δ => (fe δ).out δ fun d => .rt d
noncomputable def ifS (gc : FT) (F1 F2 : FS) : FS := fun δ => (gc δ).out δ fun k => if k = true then F1 δ else F2 δ
noncomputable def setS (i : Nat) (fe : FE) : FS := fun δ => (fe δ).out δ fun d => .nx (δ.set i (some (.v d)))
noncomputable def augS (i : Nat) (g : D → D → Rs D) (fe : FE) : FS := fun δ => (getV δ i >>= fun d => fe δ >>= fun y => g d y).out δ fun d => .nx (δ.set i (some (.v d)))
noncomputable def forS (f : FA) (tg : D → DS → Option DS) (F : FS) : FS := fun δ => (f δ).out δ fun ds => forO tg F ds δ
noncomputable def badS : FS := fun _ => .bad
noncomputable abbrev ltR : D → D → Rs D := cmpR fun i j => decide (i < j)
noncomputable abbrev leR : D → D → Rs D := cmpR fun i j => decide (i ≤ j)
noncomputable abbrev gtR : D → D → Rs D := cmpR fun i j => decide (j < i)
noncomputable abbrev geR : D → D → Rs D := cmpR fun i j => decide (j ≤ i)
noncomputable def tgN (i : Nat) (d : D) (δ : DS) : Option DS := some (δ.set i (some (.v d)))

section
variable {X : Cx} {B G₀ : Hp} {a b c e : Expr} {es rest : List Expr} {fa fb fc fe : FE} {ga gb gc : FT} {fr : FA} {F F1 F2 : FS} {pos p : Pos} {st : Stmt} {sts sts' : List Stmt} {x : Str}
theorem q_gint {i : Int} (h : ∃ t, X.mg x = some (.int i t)) (hg : Gl X x := by rfl) (hd : (x == ("__debug__" : Str)) = false := by decide) : PE X (.Name x pos) (tE X B G₀ (cD (.int i))) := by
 obtain ⟨t, h⟩ := h; exact pd_gint h hg hd
theorem q_bin {op : Operator} {g : D → D → Rs D} (ho : OpD X (binaryOp op) g) (ha : PE X a (tE X B G₀ fa)) (hb : PE X b (tE X B G₀ fb)) : PE X (.BinOp a op b pos) (tE X B G₀ (bin2 g fa fb)) := pd_bin ho ha hb
theorem q_cmp {op : CmpOp} {g : D → D → Rs D} (ho : OpD X (compareOp op) g) (ha : PE X a (tE X B G₀ fa)) (hb : PE X b (tE X B G₀ fb)) (hm : behindInMarks op b = false := by first | exact nobehind _ (by decide) (by decide) | rfl) :
  PE X (.Compare a [op] [b] pos) (tE X B G₀ (bin2 g fa fb)) := pd_cmp ho ha hb hm
theorem q_tcmp {op : CmpOp} {g : D → D → Rs D} (ho : OpD X (compareOp op) g) (ha : PE X a (tE X B G₀ fa)) (hb : PE X b (tE X B G₀ fb)) (hm : behindInMarks op b = false := by first | exact nobehind _ (by decide) (by decide) | rfl) :
  PT X (.Compare a [op] [b] pos) (tT X B G₀ (cmpT g fa fb)) := pdt_cmp ho ha hb hm
theorem q_tval (ha : PE X a (tE X B G₀ fa)) (he : ∀ whole, isTrue a X.env whole = (do let v ← whole; standAt a.pos; holding [v] (truthy v)) := by intro _; rfl) : PT X a (tT X B G₀ (valT fa)) := pdt_val ha he
theorem q_tnot (ha : PT X a (tT X B G₀ ga)) : PT X (.UnaryOp .Not a pos) (tT X B G₀ (notT ga)) := pdt_not ha
theorem q_wor (ha : PT X a (tT X B G₀ ga)) (hb : PW X (.BoolOp .Or (b :: rest) pos) (tT X B G₀ gb)) : PW X (.BoolOp .Or (a :: b :: rest) pos) (tT X B G₀ (orT ga gb)) := pdw_or ha hb
theorem q_w1o (ha : PT X a (tT X B G₀ ga)) : PW X (.BoolOp .Or [a] pos) (tT X B G₀ ga) := pw_one (.inr rfl) ha
theorem q_and (ha : PE X a (tE X B G₀ fa)) (hb : PE X (.BoolOp .And (b :: rest) pos) (tE X B G₀ fb)) : PE X (.BoolOp .And (a :: b :: rest) pos) (tE X B G₀ (andV fa fb)) := pd_and ha hb
theorem q_not (ha : PE X a (tE X B G₀ fa)) : PE X (.UnaryOp .Not a pos) (tE X B G₀ (notV fa)) := pd_not ha
theorem q_neg (ha : PE X a (tE X B G₀ fa)) : PE X (.UnaryOp .USub a pos) (tE X B G₀ (negV fa)) := by
 refine pd_of (pd_neg ha) fun σ H G δ Q R hw => ⟨G, δ, R, ?_⟩
 have e : (fa δ >>= fun x => match x with | .int i => .ok (.int (-i)) | _ => .bad) = negV fa δ := by
  unfold negV
  cases fa δ with
  | ok d => cases d <;> rfl
  | exc c => rfl
  | bad => rfl
 exact Eq.mpr (congrArg (W X Q σ H G) e) hw
theorem q_chain {op op' : CmpOp} {g g' : D → D → Rs D} (ho : OpD X (compareOp op) g) (ho' : OpD X (compareOp op') g') (ha : PE X a (tE X B G₀ fa)) (hb : PE X b (tE X B G₀ fb)) (hc : PE X c (tE X B G₀ fc))
  (hm : lastMarks [op, op'] [b, c] = false := by with_unfolding_all rfl) : PE X (.Compare a [op, op'] [b, c] pos) (tE X B G₀ (chainV g g' fa fb fc)) := by
 refine pd_of (pd_chain ho ho' ha hb hc hm) fun σ H G δ Q R hw => ⟨G, δ, R, ?_⟩
 have e : ∀ z (r : Rs D), (match z with | .bl true => r | .bl false => .ok (.bl false) | _ => .bad : Rs D) = chainR z r := fun z r => by
  unfold chainR; rfl
 unfold chainV at hw
 simp only [e]; exact hw
theorem q_a0 : PA X [] (tAs X B G₀ a0) := pda_nil
theorem q_aC (ha : PE X e (tE X B G₀ fe)) (hr : PA X es (tAs X B G₀ fr)) (hs : starEach (e :: es) X.env = (false, eval e X.env) :: starEach es X.env := by rfl) : PA X (e :: es) (tAs X B G₀ (aC fe fr)) := pda_cons ha hr hs
theorem q_tup {x1} (h : PA X es (tAs X B G₀ fr)) : PE X (.Tuple es x1 pos) (tE X B G₀ (appF tupR fr)) := pd_tup h
theorem q_lst (h : PA X es (tAs X B G₀ fr)) : PE X (.List es pos) (tE X B G₀ (appF lstR fr)) := pd_lst h
theorem q_ix (ha : PE X a (tE X B G₀ fa)) (hb : PE X b (tE X B G₀ fb)) (hs : PlainIx b := by intro _ _; rfl) : PE X (.Subscript a b pos) (tE X B G₀ (bin2 idxR fa fb)) := pd_ix ha hb hs
theorem q_blt {id : String} {g : List D → Rs D} (hc : CallD X (.builtin id) g) (hm : X.mg x = none) (hv : bootBuiltins x = some (.builtin id)) (ha : PA X (e :: es) (tAs X B G₀ fr)) (hg : Gl X x := by rfl) (hn : x ≠ "__name__" := by decide) (hdb : (x == ("__debug__" : Str)) = false := by decide)
  (he : starEach (e :: es) X.env = (false, eval e X.env) :: starEach es X.env := by rfl) (hpl : (backTo pos (starEach es X.env)).any (·.1) = false := by rfl) : PE X (.Call (.Name x p) (e :: es) [] pos) (tE X B G₀ (appF g fr)) := pd_callB hc hm hv ha hg hn hdb he hpl
theorem q_ty {T : String} {g : List D → Rs D} (hc : CallD X (.type T) g) (hm : X.mg x = none) (hv : bootBuiltins x = some (.type T)) (ha : PA X (e :: es) (tAs X B G₀ fr)) (hg : Gl X x := by rfl) (hn : x ≠ "__name__" := by decide) (hdb : (x == ("__debug__" : Str)) = false := by decide)
  (he : starEach (e :: es) X.env = (false, eval e X.env) :: starEach es X.env := by rfl) (hpl : (backTo pos (starEach es X.env)).any (·.1) = false := by rfl) : PE X (.Call (.Name x p) (e :: es) [] pos) (tE X B G₀ (appF g fr)) := pd_callTy hc hm hv ha hg hn hdb he hpl
theorem q_call {k n : Nat} {g : List D → Rs D} (F : Fn X.prog X.w X.K X.mg X.base x k n g) (hr : Room k X.A) (ha : PA X (e :: es) (tAs X B G₀ fr)) (hg : Gl X x := by rfl) (hdb : (x == ("__debug__" : Str)) = false := by decide)
  (he : starEach (e :: es) X.env = (false, eval e X.env) :: starEach es X.env := by rfl) (hpl : (backTo pos (starEach es X.env)).any (·.1) = false := by rfl) : PE X (.Call (.Name x p) (e :: es) [] pos) (tE X B G₀ (appF g fr)) := pd_call F hr ha hg hdb he hpl
theorem q_isi {y : Str} {p2 : Pos} {T : String} (hT : IsiOk X.K T) (hm : X.mg "isinstance" = none) (hm2 : X.mg y = none) (hv2 : bootBuiltins y = some (.type T)) (ha : PE X e (tE X B G₀ fe)) (hg : Gl X "isinstance" := by rfl) (hg2 : Gl X y := by rfl)
  (hn2 : y ≠ "__name__" := by decide) (hd2 : (y == ("__debug__" : Str)) = false := by decide) (hs1 : starEach [e, .Name y p2] X.env = (false, eval e X.env) :: starEach [.Name y p2] X.env := by rfl) :
  PE X (.Call (.Name "isinstance" p) [e, .Name y p2] [] pos) (tE X B G₀ (isiF T fe)) := pd_isi hT hm hm2 hv2 ha hg hg2 hn2 hd2 hs1
theorem q_it {tg : Expr} (hl : PE X e (tE X B G₀ fe)) : PI X tg e (tI X B G₀ (itF fe)) := pdi_any hl
theorem tI_imp {tg iter : Expr} {f f' : FA} (h : PI X tg iter (tI X B G₀ f)) (e : ∀ δ, f δ = f' δ) : PI X tg iter (tI X B G₀ f') := by
 have : f = f' := funext e
 rw [← this]; exact h
theorem q_rng1 {tg : Expr} (hm : X.mg "range" = none) (ha : PA X [a] (tAs X B G₀ fr)) (hg : Gl X "range" := by rfl) (hs : starEach [a] X.env = [(false, eval a X.env)] := by rfl) : PI X tg (.Call (.Name "range" p) [a] [] pos) (tI X B G₀ (rng1 fr)) :=
 tI_imp (pdi_range1 hm ha hg hs) fun δ => by unfold rng1; cases fr δ with | ok ds => (cases ds with | nil => rfl | cons d r => (cases r <;> rfl)) | exc c => rfl | bad => rfl
theorem q_comp {elt iter : Expr} {px : Pos} {ifs : List Expr} {scope sc : Scope} {N : List Str} {f : FA} (fr : List (Str × Nat)) (hok : compOk sc scope N x fr = true) (hsc : X.env.scope = sc) (hN : X.N = N) (hcalm : X.calm = true)
  (hi : PI X (.Name x px) iter (tI X B G₀ f)) (ht : Tst X scope x fr ifs gc) (he : ∀ C s₀ H₀ fp B' G', PE (compCx X scope x fr C s₀ H₀ fp) elt (tE (compCx X scope x fr C s₀ H₀ fp) B' G' fe))
  (hs : ∀ x, foldedSetIterable iter X.env x = pure x := by intro _; rfl) :
  PE X (.ListComp elt [⟨.Name x px, iter, ifs, 0⟩] scope pos) (tE X B G₀ (compF fr f fe gc)) := pd_comp fr hok hsc hN hcalm hi ht he hs
theorem q_expr (he : PE X e (tE X B G₀ fe)) (hs : swapsWith e none pos.line X.env = pure false := by rfl) : PS X (.Expr e pos) (tS X B G₀ (exprS fe)) := pds_expr he hs
theorem q_ret (he : PE X e (tE X B G₀ fe)) : PS X (.Return (some e) pos) (tS X B G₀ (retS fe)) := pds_ret he
theorem q_ifS (hc : PT X c (tT X B G₀ gc)) (ha : PSs X sts (tS X B G₀ F1)) (hb : PSs X sts' (tS X B G₀ F2)) : PS X (.If c sts sts' pos) (tS X B G₀ (ifS gc F1 F2)) := pds_if hc ha hb
theorem q_set (i : Nat) {pos' : Pos} (hN : X.N.Nodup) (he : PE X e (tE X B G₀ fe)) (hi : X.N[i]? = some x := by rfl) (hx : Loc X.env.scope x := by first | exact Or.inl rfl | exact Or.inr rfl) (hs : swapsWith e (some (.Name x pos')) pos.line X.env = pure false := by rfl)
  (hf : X.fn x = true ∨ X.env.scope.names.lookup x = some .local := by first | exact .inl rfl | exact .inr rfl | assumption) :
  PS X (.Assign [.Name x pos'] e pos) (tS X B G₀ (setS i fe)) := pds_set i hN he hi hx hs hf
theorem q_aug (i : Nat) {op : Operator} {g : D → D → Rs D} {pos' : Pos} (ho : IpD X op g) (hN : X.N.Nodup) (he : PE X e (tE X B G₀ fe)) (hi : X.N[i]? = some x := by rfl) (hx : Loc X.env.scope x := by first | exact Or.inl rfl | exact Or.inr rfl)
  (hf : X.fn x = true ∨ X.env.scope.names.lookup x = some .local := by first | exact .inl rfl | exact .inr rfl | assumption) :
  PS X (.AugAssign (.Name x pos') op e pos) (tS X B G₀ (augS i g fe)) := pds_aug i ho hN he hi hx hf
theorem q_for {tgt iter : Expr} {g : TG} {tg : D → DS → Option DS} {f : FA} (hp : PassesOwn (model X.prog X.w) X.A X.env X.xe) (hc : X.calm = true) (hi : PI X tgt iter (tI X B G₀ f)) (hg : PG X tgt g) (ht : TgD X B g tg) (hb : ∀ G₀, PSs X sts (tS X B G₀ F))
  (hs : ∀ x, foldedSetIterable iter X.env x = pure x := by intro _; rfl) : PS X (.For tgt iter sts [] pos) (tS X B G₀ (forS f tg F)) := pds_for hp hc hi hg ht hb hs
theorem q_never : PS X st (tS X B G₀ badS) := pds_never
theorem q_tgN (i : Nat) : TgD X B (gName i) (tgN i) := tg_name i
end
end M

set_option Elab.async false
set_option linter.all false
set_option maxRecDepth 100000
set_option maxHeartbeats 4000000
namespace M
open PySem PySem.Spec PyProof.Rows L2
set_option autoImplicit false

section
variable (g g' : D → D → Rs D) (fa fb fc fe : FE) (ga gb gc : FT) (fr : FA) (F F1 F2 : FS) (δ : DS)
@[simp] theorem s_bin2 : bin2 g fa fb δ = (fa δ >>= fun x => fb δ >>= fun y => g x y) := nodef rfl
@[simp] theorem s_cmpT : cmpT g fa fb δ = (fa δ >>= fun x => fb δ >>= fun y => g x y >>= fun d => truR d) := nodef rfl
@[simp] theorem s_valT : valT fa δ = (fa δ >>= fun d => truR d) := nodef rfl
@[simp] theorem s_notT : notT ga δ = (ga δ >>= fun b => .ok (!b)) := nodef rfl
@[simp] theorem s_orT : orT ga gb δ = (ga δ >>= fun c => if c = true then .ok true else gb δ) := nodef rfl
@[simp] theorem s_andV : andV fa fb δ = (fa δ >>= fun x => truR x >>= fun k => if k = true then fb δ else .ok x) := nodef rfl
@[simp] theorem s_notV : notV fa δ = (fa δ >>= fun x => truR x >>= fun k => .ok (.bl (!k))) := nodef rfl
@[simp] theorem s_negV : negV fa δ = (fa δ >>= negR) := nodef rfl
@[simp] theorem s_negR (i : Int) : negR (.int i) = .ok (.int (-i)) := nodef rfl
@[simp] theorem s_chainV : chainV g g' fa fb fc δ = (fa δ >>= fun x => fb δ >>= fun y => g x y >>= fun z => chainR z (fc δ >>= fun w => g' y w)) := nodef rfl
@[simp] theorem s_chainR (b : Bool) (r : Rs D) : chainR (.bl b) r = if b = true then r else .ok (.bl false) := by cases b <;> rfl
@[simp] theorem s_a0 : a0 δ = .ok [] := nodef rfl
@[simp] theorem s_aC : aC fe fr δ = (fe δ >>= fun d => fr δ >>= fun ds => .ok (d :: ds)) := nodef rfl
@[simp] theorem s_appF (h : List D → Rs D) : appF h fr δ = (fr δ >>= h) := nodef rfl
@[simp] theorem s_isiF (T : String) : isiF T fe δ = (fe δ >>= fun d => isiR T d) := nodef rfl
@[simp] theorem isiR_int (T : String) (i : Int) : isiR T (.int i) = .ok (.bl (isiN (tyN (.int i)) T)) := nodef rfl
@[simp] theorem isiR_str (T : String) (i : Str) : isiR T (.str i) = .ok (.bl (isiN (tyN (.str i)) T)) := nodef rfl
@[simp] theorem isiR_tup (T : String) (i : List D) : isiR T (.tup i) = .ok (.bl (isiN (tyN (.tup i)) T)) := nodef rfl
@[simp] theorem isiR_lst (T : String) (i : List D) : isiR T (.lst i) = .ok (.bl (isiN (tyN (.lst i)) T)) := nodef rfl
@[simp] theorem s_itF : itF fe δ = (fe δ >>= itR) := nodef rfl
@[simp] theorem s_tt : tt δ = .ok true := nodef rfl
@[simp] theorem s_compF (f : FA) (fn : List (Str × Nat)) : compF fn f fe gc δ = (f δ >>= fun ds => bigR ds (compL (fun d => fe (innerD δ fn (some (.v d)))) (fun d => gc (innerD δ fn (some (.v d)))) ds)) := nodef rfl
@[simp] theorem s_exprS : exprS fe δ = (fe δ).out δ fun _ => .nx δ := nodef rfl
@[simp] theorem s_retS : retS fe δ = (fe δ).out δ fun d => .rt d := nodef rfl
@[simp] theorem s_ifS : ifS gc F1 F2 δ = (gc δ).out δ fun k => if k = true then F1 δ else F2 δ := nodef rfl
@[simp] theorem s_setS (i : Nat) : setS i fe δ = (fe δ).out δ fun d => .nx (δ.set i (some (.v d))) := nodef rfl
@[simp] theorem s_forS (f : FA) (tg : D → DS → Option DS) : forS f tg F δ = (f δ).out δ fun ds => forO tg F ds δ := nodef rfl
@[simp] theorem rs_assoc {α β γ : Type} (r : Rs α) (f : α → Rs β) (h : β → Rs γ) : ((r >>= f) >>= h) = (r >>= fun x => f x >>= h) := by cases r <;> rfl
noncomputable def Out.thn (o : Out) (F : FS) : Out := match o with
 | .nx δ' => F δ'
 | o => o
@[simp] theorem s_seqO : seqO F1 F2 δ = (F1 δ).thn F2 := by
 unfold seqO Out.thn
 cases F1 δ <;> rfl
@[simp] theorem thn_nx : (Out.nx δ).thn F = F δ := nodef rfl
@[simp] theorem thn_rt (d : D) : (Out.rt d).thn F = .rt d := nodef rfl
@[simp] theorem fin_rt (d : D) : fin (.rt d) = .ok d := nodef rfl
@[simp] theorem s_varD0 (d : D) : varD 0 (some (.v d) :: δ) = .ok d := nodef rfl
@[simp] theorem s_varDs (x : Option Sl) (i : Nat) : varD (i + 1) (x :: δ) = varD i δ := nodef rfl
@[simp] theorem s_cD (d : D) : cD d δ = .ok d := nodef rfl
@[simp] theorem s_add (i j : Int) : addR (.int i) (.int j) = .ok (.int (i + j)) := nodef rfl
theorem s_mul (i j : Int) : mulR (.int i) (.int j) = if (small i || small j) = true then .ok (.int (i * j)) else .bad := rfl
theorem mul_l {i j : Int} (h : -(2 ^ 64) < i ∧ i < 2 ^ 64) : mulR (.int i) (.int j) = .ok (.int (i * j)) := by
 rw [s_mul, if_pos]; rw [Bool.or_eq_true]; exact .inl (decide_eq_true h)
theorem mul_r {i j : Int} (h : -(2 ^ 64) < j ∧ j < 2 ^ 64) : mulR (.int i) (.int j) = .ok (.int (i * j)) := by
 rw [s_mul, if_pos]; rw [Bool.or_eq_true]; exact .inr (decide_eq_true h)
theorem s_mod {i j : Int} (h : 0 < j) : modR (.int i) (.int j) = .ok (.int (i % j)) := by show (if _ then _ else _) = _; rw [if_pos h]
theorem s_fdiv {i j : Int} (h : 0 < j ∧ j < 1073741824) : fdivR (.int i) (.int j) = .ok (.int (i / j)) := by show (if _ then _ else _) = _; rw [if_pos h]
@[simp] theorem s_cmp (p : Int → Int → Bool) (i j : Int) : cmpR p (.int i) (.int j) = .ok (.bl (p i j)) := nodef rfl
@[simp] theorem s_truRb (b : Bool) : truR (.bl b) = .ok b := nodef rfl
@[simp] theorem s_lenS (z : Str) : lenR [.str z] = .ok (.int z.length) := nodef rfl
@[simp] theorem s_lenT (ds : List D) : lenR [.tup ds] = .ok (.int ds.length) := nodef rfl
@[simp] theorem s_lenL (ds : List D) : lenR [.lst ds] = .ok (.int ds.length) := nodef rfl
@[simp] theorem s_ord (c : Nat) : ordR [.str (chr1 c)] = .ok (.int c) := nodef rfl
@[simp] theorem s_itS (z : Str) : itR (.str z) = .ok (signsD z) := nodef rfl
@[simp] theorem s_tup2 (a b : D) : tupR [a, b] = .ok (.tup [a, b]) := nodef rfl
@[simp] theorem s_tup3 (a b c : D) : tupR [a, b, c] = .ok (.tup [a, b, c]) := nodef rfl
@[simp] theorem s_lst0 : lstR [] = .ok (.lst []) := nodef rfl
@[simp] theorem s_lst1 (a : D) : lstR [a] = .ok (.lst [a]) := nodef rfl
@[simp] theorem s_lst2 (a b : D) : lstR [a, b] = .ok (.lst [a, b]) := nodef rfl
@[simp] theorem s_fn1 (m : Nat) (a : D) : fnR 1 m F [a] = fin (F (some (.v a) :: List.replicate m none)) := nodef rfl
@[simp] theorem s_fn2 (m : Nat) (a b : D) : fnR 2 m F [a, b] = fin (F (some (.v a) :: some (.v b) :: List.replicate m none)) := nodef rfl
@[simp] theorem s_fn3 (m : Nat) (a b c : D) : fnR 3 m F [a, b, c] = fin (F (some (.v a) :: some (.v b) :: some (.v c) :: List.replicate m none)) := nodef rfl
@[simp] theorem s_innerD (fn : List (Str × Nat)) (v : Option Sl) : innerD δ fn v = v :: fn.map fun y => visS (δ[y.2]?).join := nodef rfl
@[simp] theorem s_visS (d : D) : visS (some (.v d)) = some (.v d) := nodef rfl
end

@[simp] theorem ty_int (i : Int) : tyN (.int i) = "int" := nodef rfl
@[simp] theorem ty_str (i : Str) : tyN (.str i) = "str" := nodef rfl
@[simp] theorem ty_tup (i : List D) : tyN (.tup i) = "tuple" := nodef rfl
@[simp] theorem ty_lst (i : List D) : tyN (.lst i) = "list" := nodef rfl
@[simp] theorem isi_ii : isiN "int" "int" = true := by decide
@[simp] theorem isi_ib : isiN "int" "bool" = false := by decide
@[simp] theorem isi_ss : isiN "str" "str" = true := by decide
@[simp] theorem isi_tt : isiN "tuple" "tuple" = true := by decide
@[simp] theorem isi_ll : isiN "list" "list" = true := by decide

mutual
theorem eqB_refl : ∀ d : D, eqB d d = true
 | .non => rfl
 | .bl b => by simp [eqB, toP, PyData.eqv]
 | .int b => by simp [eqB, toP, PyData.eqv]
 | .str b => by simp [eqB, toP, PyData.eqv]
 | .tup ds => by simpa [eqB, toP, PyData.eqv] using eqBs_refl ds
 | .lst ds => by simpa [eqB, toP, PyData.eqv] using eqBs_refl ds
 | .dct ks ds => by simp [eqB, toP, PyData.eqv]
 | .dtt ks ds => by simp [eqB, toP, PyData.eqv]
 | .dnn Φ ks ds => by simp [eqB, toP, PyData.eqv]
 | .exn c => by simp [eqB, toP, PyData.eqv]
theorem eqBs_refl : ∀ ds : List D, PyData.eqvAll (toPs ds) (toPs ds) = true
 | [] => rfl
 | d :: ds => by
  have h1 := eqB_refl d
  have h2 := eqBs_refl ds
  simp only [eqB] at h1
  simp [toPs, PyData.eqvAll, h1, h2]
end
noncomputable def eqBs (a b : List D) : Bool := PyData.eqvAll (toPs a) (toPs b)
@[simp] theorem eqB_lst (i j : List D) : eqB (.lst i) (.lst j) = eqBs i j := nodef rfl
@[simp] theorem eqB_self (d : D) : eqB d d = true := eqB_refl d
noncomputable def dep (d : D) : Nat := (toP d).depth
@[simp] theorem dep_int (i : Int) : dep (.int i) = 0 := nodef rfl
@[simp] theorem lay_int (b : Int) : lay (.int b) = true := nodef rfl
@[simp] theorem lay_lst (b : List D) : lay (.lst b) = layL b := nodef rfl
@[simp] theorem layL_nil : layL [] = true := nodef rfl
@[simp] theorem layL_cons (d : D) (b : List D) : layL (d :: b) = (lay d && layL b) := nodef rfl
theorem layL_map {α : Type} {f : α → D} (h : ∀ x, lay (f x) = true) : ∀ l : List α, layL (l.map f) = true
 | [] => rfl
 | x :: l => by rw [List.map_cons, layL_cons, h x, layL_map h l]; rfl
theorem eq_l {a b : D} (h : dep a ≤ 64) (ha : lay a = true := by first | rfl | assumption | (simp; done) | exact layL_map (fun _ => rfl) _ | (simp [layL_map]; done)) (hb : lay b = true := by first | rfl | assumption | (simp; done) | exact layL_map (fun _ => rfl) _ | (simp [layL_map]; done)) : eqR a b = .ok (.bl (eqB a b)) := by
 unfold eqR flat2
 have : min (toP a).depth (toP b).depth ≤ 64 := Nat.le_trans (Nat.min_le_left _ _) h
 rw [if_pos (by rw [decide_eq_true this, ha, hb]; rfl)]
theorem eq_r {a b : D} (h : dep b ≤ 64) (ha : lay a = true := by first | rfl | assumption | (simp; done) | exact layL_map (fun _ => rfl) _ | (simp [layL_map]; done)) (hb : lay b = true := by first | rfl | assumption | (simp; done) | exact layL_map (fun _ => rfl) _ | (simp [layL_map]; done)) : eqR a b = .ok (.bl (eqB a b)) := by
 unfold eqR flat2
 have : min (toP a).depth (toP b).depth ≤ 64 := Nat.le_trans (Nat.min_le_right _ _) h
 rw [if_pos (by rw [decide_eq_true this, ha, hb]; rfl)]
theorem ne_l {a b : D} (h : dep a ≤ 64) (ha : lay a = true := by first | rfl | assumption | (simp; done) | exact layL_map (fun _ => rfl) _ | (simp [layL_map]; done)) (hb : lay b = true := by first | rfl | assumption | (simp; done) | exact layL_map (fun _ => rfl) _ | (simp [layL_map]; done)) : neR a b = .ok (.bl (!eqB a b)) := by
 unfold neR flat2
 have : min (toP a).depth (toP b).depth ≤ 64 := Nat.le_trans (Nat.min_le_left _ _) h
 rw [if_pos (by rw [decide_eq_true this, ha, hb]; rfl)]
@[simp] theorem eq_int (i j : Int) : eqR (.int i) (.int j) = .ok (.bl (i == j)) := eq_l (Nat.zero_le _)
@[simp] theorem ne_int (i j : Int) : neR (.int i) (.int j) = .ok (.bl (!(i == j))) := ne_l (Nat.zero_le _)
theorem ix_lst {ds : List D} {i : Nat} {d : D} (h : ds[i]? = some d) : idxR (.lst ds) (.int i) = .ok d := by
 show (match atI ds (i : Int) with | some d => Rs.ok d | none => .bad) = _
 rw [atI_nat h]
theorem ix_tup {ds : List D} {i : Nat} {d : D} (h : ds[i]? = some d) : idxR (.tup ds) (.int i) = .ok d := by
 show (match atI ds (i : Int) with | some d => Rs.ok d | none => .bad) = _
 rw [atI_nat h]
@[simp] theorem ix_t0 (a : D) (r : List D) : idxR (.tup (a :: r)) (.int 0) = .ok a := ix_tup (i := 0) rfl
@[simp] theorem ix_t1 (a b : D) (r : List D) : idxR (.tup (a :: b :: r)) (.int 1) = .ok b := ix_tup (i := 1) rfl
@[simp] theorem ix_t2 (a b c : D) (r : List D) : idxR (.tup (a :: b :: c :: r)) (.int 2) = .ok c := ix_tup (i := 2) rfl

noncomputable def Out.go : Out → Option DS
 | .nx δ => some δ
 | .ct δ => some δ
 | _ => none
theorem comp_list {α : Type} {elt : D → Rs D} (f : α → D) (g : α → D) {xs : List α} (h : ∀ x ∈ xs, elt (f x) = .ok (g x)) : compL elt (fun _ => .ok true) (xs.map f) = .ok (xs.map g) := by
 induction xs with
 | nil => rfl
 | cons x xs ih =>
  rw [List.map_cons, List.map_cons]
  unfold compL
  rw [h x (List.mem_cons_self ..), ih fun y hy => h y (List.mem_cons_of_mem _ hy)]
theorem big_ok {ds es : List D} (h : ds.length ≤ 1000000) : bigR ds (.ok es) = .ok (.lst es) := by unfold bigR; rw [if_pos h]
end M

set_option Elab.async false
set_option linter.all false
set_option maxRecDepth 100000
set_option maxHeartbeats 4000000
namespace M
open PySem PySem.Spec PyProof.Rows L2
set_option autoImplicit false

noncomputable def cutL {α : Type} (xs : List α) (lo hi : Option Int) : List α := (xs.drop (HT.sIx xs.length 0 lo)).take (HT.sIx xs.length xs.length hi - HT.sIx xs.length 0 lo)
noncomputable def cutT (x : Str) (lo hi : Option Int) : Str := ⟨(cutL x.cps.toList lo hi).toArray⟩
theorem clip_eq2 (v : Int) (n d : Nat) : max 0 (min (if v < 0 then v + (n : Int) else v) (n : Int)) = ((HT.sIx n d (some v) : Nat) : Int) := by
 rw [← HT.clip_eq v n d]
 by_cases hv : v < 0
 ·simp only [if_pos hv]; omega
 ·simp only [if_neg hv]; omega
theorem idx_gen (lo hi : Option Int) (n : Nat) : Builtin.Str.strSliceIndices lo hi 1 n = (List.range (HT.sIx n n hi - HT.sIx n 0 lo)).map (fun k => HT.sIx n 0 lo + k) := by
 have e : Builtin.Str.strSliceIndices lo hi 1 n = sliceRange ((HT.sIx n 0 lo : Nat) : Int) ((HT.sIx n n hi : Nat) : Int) 1 := by
  unfold Builtin.Str.strSliceIndices
  simp only [show ((1 : Int) > 0) = True from by simp, if_true]
  congr 1
  ·cases lo with
   | none => rfl
   | some v => exact clip_eq2 v n 0
  ·cases hi with
   | none => rfl
   | some v => exact clip_eq2 v n n
 rw [e]
 unfold sliceRange
 simp only [show ((1 : Int) > 0) = True from by simp, if_true]
 have e2 : (if ((HT.sIx n 0 lo : Nat) : Int) < ((HT.sIx n n hi : Nat) : Int) then (((HT.sIx n n hi : Nat) : Int) - ((HT.sIx n 0 lo : Nat) : Int) + 1 - 1) / 1 else 0).toNat = HT.sIx n n hi - HT.sIx n 0 lo := by
  split <;> omega
 rw [e2]
 apply List.map_congr_left
 intro k _
 omega
theorem pick_drop {α : Type} (l : List α) (a m : Nat) (h : a + m ≤ l.length) : ((List.range m).map fun k => a + k).filterMap (fun i => l[i]?) = (l.drop a).take m := by
 induction m with
 | zero => simp
 | succ m ih =>
  rw [List.range_succ, List.map_append, List.filterMap_append, ih (by omega)]
  have e : (l.drop a)[m]? = l[a + m]? := by rw [List.getElem?_drop]
  have hl : m < (l.drop a).length := by rw [List.length_drop]; omega
  rw [List.take_add_one, e]
  simp [List.getElem?_eq_getElem (show a + m < l.length by omega)]
theorem cutT_eq (x : Str) (lo hi : Option Int) : (⟨((Builtin.Str.strSliceIndices lo hi 1 x.length).filterMap (x.cps[·]?)).toArray⟩ : Str) = cutT x lo hi := by
 have hl : x.cps.toList.length = x.length := by simp [Str.length]
 have hb := HT.sIx_le x.length x.length (Nat.le_refl _) hi
 have ha := HT.sIx_le x.length 0 (Nat.zero_le _) lo
 unfold cutT cutL
 rw [idx_gen, hl]
 have := pick_drop x.cps.toList (HT.sIx x.length 0 lo) (HT.sIx x.length x.length hi - HT.sIx x.length 0 lo) (by rw [hl]; omega)
 rw [← this]
 simp
theorem cutT_len (x : Str) (lo hi : Option Int) : (cutT x lo hi).length ≤ x.length := by
 unfold cutT cutL Str.length
 simp
 omega
theorem cutT_all (x : Str) (lo hi : Option Int) (h : (Builtin.Str.strSliceIndices lo hi 1 x.length).length = x.length) : cutT x lo hi = x := by
 have hl : x.cps.toList.length = x.length := by simp [Str.length]
 rw [idx_gen] at h
 simp at h
 have hb := HT.sIx_le x.length x.length (Nat.le_refl _) hi
 have e1 : HT.sIx x.length 0 lo = 0 ∨ x.length = 0 := by omega
 have hx : cutL x.cps.toList lo hi = x.cps.toList := by
  unfold cutL
  rw [hl]
  rcases e1 with e1 | e1
  ·rw [e1, show HT.sIx x.length x.length hi - 0 = x.cps.toList.length by omega, List.drop_zero, List.take_length]
  ·have : x.cps.toList = [] := List.length_eq_zero_iff.mp (by omega)
   rw [this]; simp
 unfold cutT
 rw [hx]
theorem strOk_cut {x : Str} (h : PyData.strOk x = true) (lo hi : Option Int) : PyData.strOk (cutT x lo hi) = true := by
 unfold PyData.strOk at h ⊢
 rw [Array.all_eq_true_iff_forall_mem] at h ⊢
 intro c hc
 refine h c ?_
 have : c ∈ cutL x.cps.toList lo hi := by simpa [cutT] using hc
 unfold cutL at this
 have := List.mem_of_mem_drop (List.mem_of_mem_take this)
 simpa using this
noncomputable def rSlS : V → Option Int → Option Int → Hp → VK → Prop := fun x lo hi H Q => ∃ z, x = .str z ∧ z.length ≤ sizeLine ∧ Q (.str (cutT z lo hi)) H
theorem sl_str {X : Cx} : SlR X rSlS := by
 intro pins s σ H x v vl vu lo hi sl Q I rx hs pl pu h
 obtain ⟨z, rfl, hz, q⟩ := h
 obtain ⟨t, rfl⟩ := rx
 refine ⟨"str", _, F.slot_str_getitem.lookup, typeIs_str _ _ _, ?_⟩
 have key : ∀ (l u : Option (Int × Tok)), vl = partValue l → vu = partValue u → lo = l.map (·.1) → hi = u.map (·.1) → wpAny (model X.prog X.w) X.A (getItem (.str z t) (.ref sl)) (EP X pins σ Q) X.xe s := by
  intro l u e1 e2 e3 e4
  refine wpAny_getItem_str_slice (l := l) (u := u) (st := none) ?_ rfl ?_
  ·rw [e1, e2] at hs; exact hs
  ·unfold sliceMade
   split
   ·rename_i hc
    rw [Bool.and_eq_true] at hc
    have hc := eq_of_beq hc.2
    unfold slicePicked at hc
    rw [← e3, ← e4] at hc
    refine ⟨.str z, H, I, ⟨t, rfl⟩, ?_⟩
    have := cutT_all z lo hi hc
    rw [this] at q; exact q
   ·unfold slicePicked
    rw [← e3, ← e4]
    refine ⟨?_, ?_⟩
    ·show (⟨((Builtin.Str.strSliceIndices lo hi 1 z.length).filterMap (z.cps[·]?)).toArray⟩ : Str).length ≤ sizeLine
     rw [cutT_eq]; exact Nat.le_trans (cutT_len _ _ _) hz
    ·refine ⟨.str (cutT z lo hi), H, I.tok _, ⟨s.toks, ?_⟩, q⟩
     show Value.str ⟨((Builtin.Str.strSliceIndices lo hi 1 z.length).filterMap (z.cps[·]?)).toArray⟩ _ = _
     rw [cutT_eq]
 cases pl with
 | none => cases pu with
  | none => exact key none none rfl rfl rfl rfl
  | int j u => exact key none (some (j, u)) rfl rfl rfl rfl
 | int i u1 => cases pu with
  | none => exact key (some (i, u1)) none rfl rfl rfl rfl
  | int j u => exact key (some (i, u1)) (some (j, u)) rfl rfl rfl rfl
noncomputable abbrev FP := DS → Rs (Option Int)
noncomputable def noP : FP := fun _ => .ok none
noncomputable def partR : D → Rs (Option Int)
 | .int i => .ok (some i)
 | _ => .bad
noncomputable def someP (fe : FE) : FP := fun δ => fe δ >>= partR
noncomputable def sliceR : D → Option Int → Option Int → Rs D
 | .str x, lo, hi => .ok (.str (cutT x lo hi))
 | .lst ds, lo, hi => .ok (.lst (cutL ds lo hi))
 | _, _, _ => .bad
noncomputable def slF (fe : FE) (fl fh : FP) : FE := fun δ => fe δ >>= fun d => fl δ >>= fun l => fh δ >>= fun h => sliceR d l h
noncomputable def tO (X : Cx) (B G₀ : Hp) (f : FP) : TO := fun σ H Q => ∃ G δ, Rel X B G₀ σ H G δ ∧ (f δ).wp (fun c => Xo X c σ H G) fun o => ∀ H' G', Ext H G H' G' → Q o H'
section
variable {X : Cx} {B G₀ : Hp} {e : Expr} {lo hi : Option Expr} {fe : FE} {fl fh : FP} {pos p2 : Pos}
theorem q_noPart : PO X none (tO X B G₀ noP) := fun pins s σ H Q I ⟨G, δ, R, hw⟩ => po_none pins s σ H Q I (hw H G (Ext.refl R.ext.gh))
theorem q_part (he : PE X e (tE X B G₀ fe)) : PO X (some e) (tO X B G₀ (someP fe)) := fun pins s σ H Q I ⟨G, δ, R, hw⟩ => by
 refine po_some he pins s σ H Q I ⟨G, δ, R, ?_⟩
 unfold someP at hw
 rw [wp_bind] at hw
 refine Rs.wp.mono hw (fun _ x => x) fun d q v H1 G1 e1 i1 => ?_
 cases d with
 | int i => cases (show v = .int i from i1); exact ⟨i, rfl, q H1 G1 e1⟩
 | _ => exact q.elim
theorem isL_cut {K : PySem.W.Frag} {G : Hp} {ds : List D} {xs : List V} (h : IsL K G ds xs) (lo hi : Option Int) : IsL K G (cutL ds lo hi) (cutV xs lo hi) := by
 unfold cutL cutV
 rw [h.length]
 exact IsL.take _ (IsL.drop _ h)
theorem q_slice (he : PE X e (tE X B G₀ fe)) (hl : PO X lo (tO X B G₀ fl)) (hu : PO X hi (tO X B G₀ fh)) : PE X (.Subscript e (.Slice lo hi none p2) pos) (tE X B G₀ (slF fe fl fh)) := by
 refine pd_of (pe_slice (sl_str.or sl_list) he hl hu) fun σ H G δ Q R hw => ?_
 refine ⟨G, δ, R, ?_⟩
 unfold W slF at hw
 rw [wp_bind] at hw
 refine Rs.wp.mono hw (fun _ x => x) fun d q v H1 G1 e1 i1 => ?_
 rw [wp_bind] at q
 refine ⟨G1, δ, R.mono e1, Rs.wp.mono q (fun _ x => x.mono e1) fun l q2 H2 G2 e2 => ?_⟩
 rw [wp_bind] at q2
 refine ⟨G2, δ, (R.mono e1).mono e2, Rs.wp.mono q2 (fun _ x => x.mono (e1.trans e2)) fun h q3 H3 G3 e3 => ?_⟩
 have e13 := (e1.trans e2).trans e3
 have i3 := i1.same (e2.trans e3).gg
 cases d with
 | str z =>
  obtain ⟨rfl, hz, ho⟩ := i3
  exact .inl ⟨z, rfl, hz, q3 _ H3 G3 e13 ⟨rfl, Nat.le_trans (cutT_len _ _ _) hz, strOk_cut ho _ _⟩⟩
 | lst ds =>
  obtain ⟨a, xs, rfl, h1, h2, h3⟩ := i3
  refine .inr ⟨a, xs, rfl, e3.gh.seq h1, fun p hp => q3 (.ref p) _ (upd G3 p (.lst (cutV xs l h))) (e13.trans (Ext.laid e3.gh hp)) ⟨p, _, rfl, .of upd_same, Nat.le_trans (cutV_length _ _ _) h2, (isL_cut h3 l h).same (same_upd (e3.gh.free hp) _)⟩⟩
 | _ => exact q3.elim
end
end M

set_option Elab.async false
set_option linter.all false
set_option maxRecDepth 100000
set_option maxHeartbeats 4000000
namespace M
open PySem PySem.Spec PyProof.Rows L2
set_option autoImplicit false

noncomputable def Itr3 (lo c : Int) (n : Nat) : It := ⟨fun i _ => i < n, fun i H x H' => H' = H ∧ x = .int (lo + i * c), fun i _ => n ≤ i⟩
theorem turn_range3 {P : Program} {w : World} {K : PySem.W.Frag} {tg : Expr} (it : Addr) (lo c : Int) (n : Nat) : Turn P w K tg (Itr3 lo c n) [it] it (fun i h => IsRangeIter h it (lo + (i : Nat) * c) ((n : Int) - (i : Nat)) c) where
 mem := by simp
 obj := fun i h st b hb => by
  have e : b = it := by simpa using hb
  subst e
  exact ⟨_, st, fun v z => by
   have z' : Data.fields _ = Data.cell v := z
   cases z'⟩
 keep := fun i h h' st k => k it (by simp) _ st
 item := by
  intro X hP hw hK hc i pins s σ H E I hf st hg
  subst hP hw hK
  obtain ⟨f0, f1, f2, f3, f4, f5⟩ := hf it (by simp)
  have W := Walks.range (prog := X.prog) (w := X.w) (I.ok.hd hc) it lo c n
  refine W.item i s _ _ hg st fun v h' tk hv st' kk => ?_
  obtain ⟨t, rfl⟩ := hv
  have I1 : Inv X pins σ H { s with heap := h', toks := tk } := I.turned (fun b o hb e => kk b o (by simpa using hb) e) f0 f1 f3 f4 f5
  exact ⟨_, rfl, go_of (s := { s with heap := h', toks := tk }) (n := "range_iterator") st' rfl rfl (by decide) ⟨.int (lo + i * c), H, I1, ⟨t, rfl⟩, ⟨rfl, rfl⟩, st', fun b hb => (hf b hb).1⟩⟩
 done := by
  intro X hP hw hK hc i pins s σ H E I hf st hg
  subst hP hw hK
  obtain ⟨f0, f1, f2, f3, f4, f5⟩ := hf it (by simp)
  exact wpAny_pyNext_range_end (I.ok.hd hc) st (by have : n ≤ i := hg; omega) fun h' eb => ⟨rfl, I.turned (t' := s.toks) (fun b o hb e => eb b o hb e) f0 f1 f3 f4 f5⟩
 self := fun _ _ _ _ _ st h => wpAny_pyIter_rangeiter st h
noncomputable def small3 (a b c : Int) : Bool := decide (-1073741824 < a ∧ a < 1073741824 ∧ -1073741824 < b ∧ b < 1073741824 ∧ -1073741824 < c ∧ c < 1073741824 ∧ c ≠ 0)
noncomputable def rngN (a b c : Int) : Nat := (Builtin.Range.rangeSize a b c).toNat
noncomputable def rngD3 (lo c : Int) (n : Nat) : List D := (List.range n).map fun (k : Nat) => .int (lo + (k : Int) * c)
theorem size3 {a b c : Int} (h : small3 a b c = true) : 0 ≤ Builtin.Range.rangeSize a b c ∧ Builtin.Range.rangeSize a b c ≤ 2147483648 := by
 obtain ⟨h1, h2, h3, h4, h5, h6, h7⟩ := of_decide_eq_true h
 unfold Builtin.Range.rangeSize
 by_cases hc : c > 0
 ·rw [if_pos hc]
  by_cases hab : a < b
  ·rw [if_pos hab]
   have e1 : 0 ≤ (b - a - 1) / c := Int.ediv_nonneg (by omega) (by omega)
   have e2 : (b - a - 1) / c ≤ b - a - 1 := Int.ediv_le_self _ (by omega)
   omega
  ·rw [if_neg hab]; omega
 ·rw [if_neg hc]
  by_cases hab : a > b
  ·rw [if_pos hab]
   have e1 : 0 ≤ (a - b - 1) / (-c) := Int.ediv_nonneg (by omega) (by omega)
   have e2 : (a - b - 1) / (-c) ≤ a - b - 1 := Int.ediv_le_self _ (by omega)
   omega
  ·rw [if_neg hab]; omega
theorem range_small3 {a b c : Int} (h : small3 a b c = true) : Builtin.Range.small a b c = true := by
 have hs := size3 h
 obtain ⟨h1, h2, h3, h4, h5, h6, h7⟩ := of_decide_eq_true h
 unfold Builtin.Range.small
 simp only [Builtin.Range.rangeFitsLong, Bool.and_eq_true, Bool.or_eq_true, decide_eq_true_eq, beq_iff_eq]
 refine ⟨⟨⟨⟨by omega, by omega⟩, by omega⟩, by omega⟩, .inr ?_⟩
 split <;> (simp only [Bool.and_eq_true, decide_eq_true_eq]; omega)
section
variable {X : Cx} {B G₀ : Hp} {tg : Expr} {a b c : Expr} {fr : FA} {p pos : Pos}
theorem itD_rng3 {lo c : Int} {n : Nat} {G1 : Hp} : ItD X (Itr3 lo c n) (rngD3 lo c n) G1 := by
 intro H G gg gh
 have hl : (rngD3 lo c n).length = n := by simp [rngD3]
 refine ⟨fun i d e => ?_, by rw [hl]; exact Nat.le_refl _⟩
 have hi : i < n := by rw [← hl]; exact (List.getElem?_eq_some_iff.mp e).1
 refine ⟨hi, fun v H2 ⟨eq, hv⟩ => ⟨G, by rw [eq]; exact Ext.refl gh, ?_⟩⟩
 unfold rngD3 at e
 rw [List.getElem?_map, List.getElem?_range hi] at e
 cases e
 exact hv
noncomputable def rng3R : List D → Rs (List D)
 | [.int a, .int b, .int c] => if small3 a b c = true then .ok (rngD3 a c (rngN a b c)) else .bad
 | _ => .bad
noncomputable def rng3 (fr : FA) : FA := fun δ => fr δ >>= rng3R
theorem q_rng3 (hm : X.mg "range" = none) (ha : PA X [a, b, c] (tAs X B G₀ fr)) (hg : Gl X "range" := by rfl) (hs : starEach [a, b, c] X.env = [(false, eval a X.env), (false, eval b X.env), (false, eval c X.env)] := by rfl) (hs2 : starEach [b, c] X.env = [(false, eval b X.env), (false, eval c X.env)] := by rfl) :
  PI X tg (.Call (.Name "range" p) [a, b, c] [] pos) (tI X B G₀ (rng3 fr)) := by
 intro pins s σ H Rk I ⟨G, δ, R, hw⟩
 refine Call_ (ld_blt I hg hm boot_range (PyProof.Rows.callWith_type1 (bindA ha I R hw fun ds us vs s1 H1 G1 I1 R1 r1 e1 i1 hw1 => ?_) (by rw [hs, hs2]) (by rw [hs2]; rfl)))
 unfold rng3R at hw1
 split at hw1
 ·rename_i x y z
  split at hw1
  ·rename_i hsm
   obtain ⟨v1, w1, rfl, h1, h2⟩ := i1
   obtain ⟨v2, v3, rfl, h2, h3⟩ := isL2 h2
   cases (show v1 = .int x from h1)
   cases (show v2 = .int y from h2)
   cases (show v3 = .int z from h3)
   cases r1 with
   | cons q1 r1 => cases r1 with
    | cons q2 r1 =>
     obtain ⟨u3, rfl, q3⟩ := vals1 r1
     obtain ⟨t1, rfl⟩ := q1
     obtain ⟨t2, rfl⟩ := q2
     obtain ⟨t3, rfl⟩ := q3
     have hsz := size3 hsm
     have hc := of_decide_eq_true hsm
     refine call_range_3 hc.2.2.2.2.2.2 ?_ (Or.inl (PyProof.noPylong_small (by omega)))
     refine wpAny_pyIter_range (IsRange.new ..) (range_small3 hsm) ?_
     have I2 : Inv X pins σ H1 { s1 with heap := s1.heap.push { cls := .type "range", data := .fields #[.int x t1, .int y t2, .int z t3] }, toks := s1.toks } := I1.kept fun b o e => Heap.get?_push_of_some _ e
     refine ⟨(s1.heap.push { cls := .type "range", data := .fields #[.int x t1, .int y t2, .int z t3] }).objs.size, [(s1.heap.push { cls := .type "range", data := .fields #[.int x t1, .int y t2, .int z t3] }).objs.size], _, _, H1, rfl,
      I2.kept (t' := s1.toks) fun b o e => Heap.get?_push_of_some _ e, turn_range3 _ x z (rngN x y z), ?_, fun b hb => ?_, hw1 _ H1 G1 e1 itD_rng3⟩
     ·have e1 : x + ((0 : Nat) : Int) * z = x := by simp
      have e2 : ((rngN x y z : Nat) : Int) - ((0 : Nat) : Int) = Builtin.Range.rangeSize x y z := by unfold rngN; omega
      show IsRangeIter _ _ (x + ((0 : Nat) : Int) * z) (((rngN x y z : Nat) : Int) - ((0 : Nat) : Int)) z
      rw [e1, e2]
      exact Heap.get?_push_size _ rfl
     ·have e : b = (s1.heap.push { cls := .type "range", data := .fields #[.int x t1, .int y t2, .int z t3] }).objs.size := by simpa using hb
      subst e
      exact I2.fpOk (Nat.le_refl _) (I2.hok.fresh (Nat.le_refl _))
  ·exact hw1.elim
 ·exact hw1.elim
end
end M

set_option Elab.async false
set_option linter.all false
set_option maxRecDepth 100000
set_option maxHeartbeats 4000000
namespace M
open PySem PySem.Spec PyProof.Rows L2
set_option autoImplicit false

noncomputable def getO (δ : DS) (i : Nat) : Rs (List D) := match δ[i]? with
 | some (some (.ow .l ds)) => .ok ds
 | _ => .bad
theorem getO_ok {δ : DS} {i : Nat} {ds : List D} (h : getO δ i = .ok ds) : δ[i]? = some (some (.own ds)) := by
 unfold getO at h
 split at h
 ·rename_i e; cases h; exact e
 ·cases h
theorem getO_ne {δ : DS} {i : Nat} {c : Str} : getO δ i ≠ .exc c := by
 unfold getO
 split <;> (intro h; cases h)
noncomputable def ownS (i : Nat) (fr : FA) : FS := fun δ => (fr δ).out δ fun ds => if ds.length ≤ 1000 then .nx (δ.set i (some (.own ds))) else .bad
noncomputable def mutS (i : Nat) (m : List D → List D → Rs (List D)) (fr : FA) : FS := fun δ => (getO δ i >>= fun ds => fr δ >>= fun es => m ds es).out δ fun ys => .nx (δ.set i (some (.own ys)))
noncomputable def appM (ds : List D) : List D → Rs (List D)
 | [d] => if ds.length < 1000000 then .ok (ds ++ [d]) else .bad
 | _ => .bad
noncomputable def extM (ds : List D) : List D → Rs (List D)
 | [.lst es] => if ds.length + es.length ≤ 1000000 then .ok (ds ++ es) else .bad
 | _ => .bad
theorem million : (1000000 : Nat) < sizeLine := by decide
section
variable {X : Cx} {B G₀ : Hp} {σ : St} {H G : Hp} {δ : DS} {D' : Ends} {e o : Expr} {es : List Expr} {fe : FE} {fr : FA} {F : FS} {g : FT} {x : Str} {pos pos' p apos : Pos} {st : Stmt} {sts : List Stmt}
theorem out_WA {r : Rs (List D)} {k : List D → Out} {Q : List V → Hp → Prop} (R : Rel X B G₀ σ H G δ) (hw : WS X B G₀ D' (r.out δ k)) (hk : ∀ d, r = .ok d → WS X B G₀ D' (k d) → ∀ v H' G', Ext H G H' G' → IsL X.K G' d v → Q v H') : WA X Q σ H G r := by
 cases r with
 | ok d => exact hk d rfl hw
 | exc c => exact fun pins s' H' G' ev e I x => hw pins σ s' H' G' ev (R.mono e) I x
 | bad => exact hw.elim
theorem q_own (i : Nat) {p2 : Pos} (hN : X.N.Nodup) (ha : PA X es (tAs X B G₀ fr)) (hi : X.N[i]? = some x := by rfl) (hx : Loc X.env.scope x := by first | exact Or.inl rfl | exact Or.inr rfl) (hs : swapsWith (.List es p2) (some (.Name x pos')) pos.line X.env = pure false := by rfl)
  (hf : X.fn x = true ∨ X.env.scope.names.lookup x = some .local := by first | exact .inl rfl | exact .inr rfl | assumption) :
  PS X (.Assign [.Name x pos'] (.List es p2) pos) (tS X B G₀ (ownS i fr)) := by
 refine ps_imp (ps_set hN hi hx (pe_lst ha) hs hf) fun D' σ H ⟨G, δ, R, hw⟩ => ⟨G, δ, R, out_WA R hw fun ds _ hk vs H1 G1 e1 i1 => ?_⟩
 split at hk
 ·rename_i hl
  have hz : vs.length ≤ sizeLine := Nat.le_trans (by rw [i1.length]; omega) thousand
  refine ⟨hz, fun q hq => hk _ _ G1 ((R.mono e1).setOwn i hq (same_upd hq _) upd_same (e1.gh.trans (same_upd hq _)) hz i1)⟩
 ·exact hk.elim
noncomputable def MutD (X : Cx) (r : V → List V → Hp → VK → Prop) (m : List D → List D → Rs (List D)) : Prop :=
 ∀ (H G : Hp) (a : Addr) (xs vs : List V) (ds es ys : List D) (Q : Hp → Prop), Same G H → H a = some (.lst xs) → G a = none → xs.length ≤ sizeLine → IsL X.K G ds xs → IsL X.K G es vs → m ds es = .ok ys →
  (∀ zs, zs.length ≤ sizeLine → IsL X.K G ys zs → Q (upd H a (.lst zs))) → r (.ref a) vs H fun _ H' => Q H'
theorem q_mut (i : Nat) {id : String} {r : V → List V → Hp → VK → Prop} {m : List D → List D → Rs (List D)} {name : Str} (hne : ∀ ds es c, m ds es ≠ .exc c) (slot : Slot "list" name id) (hty : typeOf (.builtin id) = pure (.type "method_descriptor")) (hm : MtR X id r) (hd : MutD X r m) (ha : PA X (e :: es) (tAs X B G₀ fr))
  (hN : X.N[i]? = some x := by rfl) (hv : Vis X.env.scope x := by first | exact Or.inl rfl | exact Or.inr (Or.inl rfl) | exact Or.inr (Or.inr rfl)) (hdb : (x == ("__debug__" : Str)) = false := by decide) (hcd : (x == ("__classdict__" : Str)) = false := by decide)
  (hbase : attributeBase (.Name x p) name X.env (eval (.Name x p) X.env) = eval (.Name x p) X.env := by rfl)
  (hfew : ((backTo pos (starEach (e :: es) X.env)).all (fun x => !x.1) && (backToKw pos (keywordEach [] X.env)).all (fun x => x.1.isSome)
   && decide ((e :: es).length + ([] : List Keyword).length + (if ([] : List Keyword).isEmpty then 0 else 1) < 30)) = true := by rfl)
  (hline : (apos.endLine == pos.line) = true := by rfl) (hs : starEach (e :: es) X.env = (false, eval e X.env) :: starEach es X.env := by rfl) (hplain : (backTo pos (starEach es X.env)).any (·.1) = false := by rfl)
  (hsw : swapsWith (.Call (.Attribute (.Name x p) name apos) (e :: es) [] pos) none pos'.line X.env = pure false := by rfl) :
  PS X (.Expr (.Call (.Attribute (.Name x p) name apos) (e :: es) [] pos) pos') (tS X B G₀ (mutS i m fr)) := by
 refine ps_imp (ps_expr (pe_bm PySem.F.plainAttrs_list slot hty hm (pe_var hN hv hdb hcd) ha hbase hfew hline hs hplain) hsw) fun D' σ H ⟨G, δ, R, hw⟩ => ?_
 unfold mutS at hw
 cases q : getO δ i with
 | exc c => exact (getO_ne q).elim
 | bad => rw [q] at hw; exact hw.elim
 | ok ds =>
  rw [q] at hw
  have hi := getO_ok q
  obtain ⟨a, xs, hσ, hH, hG, hB, hz, hI⟩ := R.own i ds hi
  refine ⟨.ref a, hσ, .inl ⟨rfl, xs, SqL.of hH⟩, G, δ, R, ?_⟩
  have hw' : WS X B G₀ D' ((fr δ).out δ fun es => (m ds es).out δ fun ys => .nx (δ.set i (some (.own ys)))) := by
   revert hw
   show WS X B G₀ D' ((fr δ >>= fun es => m ds es).out δ _) → _
   cases fr δ with
   | ok es => exact fun z => z
   | exc c => exact fun z => z
   | bad => exact fun z => z
  refine out_WA R hw' fun es' _ hk vs H1 G1 e1 i1 => ?_
  cases q2 : m ds es' with
  | exc c => exact (hne _ _ _ q2).elim
  | bad => rw [q2] at hk; exact hk.elim
  | ok ys =>
   rw [q2] at hk
   have hG1 : G1 a = none := by
    cases z : G1 a with
    | none => rfl
    | some o =>
     rcases e1.new a o z with w | w
     ·rw [hG] at w; cases w
     ·rw [hH] at w; cases w
   exact hd H1 G1 a xs vs ds es' ys (fun H' => D'.nx σ H') e1.gh (e1.hh _ _ hH) hG1 hz (hI.same e1.gg) i1 q2 fun zs hzs hI' => hk σ _ G1 ((R.mono e1).write hi hσ hzs hI')
theorem mut_append : MutD X rAppend appM := by
 intro H G a xs vs ds es ys Q gh hH hG hz hI hE hm hQ
 unfold appM at hm
 split at hm
 ·rename_i d
  split at hm
  ·rename_i hl
   cases hm
   obtain ⟨v, rfl, hv⟩ := isL1 hE
   have hl' := hI.length
   have := million
   exact ⟨a, xs, v, rfl, rfl, hH, by omega, hQ _ (by rw [List.length_append, List.length_singleton]; omega) (hI.append (IsL.one hv))⟩
  ·cases hm
 ·cases hm
theorem app_ne : ∀ ds es c, appM ds es ≠ .exc c := by
 intro ds es c h
 unfold appM at h
 split at h
 ·split at h <;> cases h
 ·cases h
noncomputable def rExtS (K : PySem.W.Frag) : V → List V → Hp → VK → Prop := fun x vs H Q => ∃ l b xs zs, x = .ref l ∧ vs = [.ref b] ∧ H l = some (.lst xs) ∧ SqL K H b zs ∧ xs.length + zs.length ≤ sizeLine ∧ Q .non (upd H l (.lst (xs ++ zs)))
theorem list_extend_any (l : Addr) (items : Array Value) (n : Nat) (b : Addr) (items2 : Array Value) (o2 : Obj) (n2 : Nat) (hc0 : ¬(!items.isEmpty && Builtin.List.listTooLong (items.size + items2.size)) = true) (hc1 : items.size ≤ sizeLine) (hs2 : items.size + items2.size ≤ sizeLine + 1) (sl : Array (Option Value)) :
  Meets (Builtin.«list.extend» ⟨[.ref l, .ref b], []⟩) (fun _ R s => s.heap.get? l = some { cls := .type "list", dict := none, data := .seq items n, slots := #[] } ∧ s.heap.get? b = some { cls := .type "list", dict := none, data := .seq items2 n2, slots := sl } ∧ R (.ok (.ret Value.none)) { s with heap := s.heap.update l (Obj.mapSeq fun x => x ++ items2), toks := s.toks }) :=
 .of_wp fun prog w A R s h => by
  obtain ⟨hp, g, d, tk, os⟩ := s; obtain ⟨hl, hb, h⟩ := h; have f1 := AutoSeq1.idx_int; have f2 := AutoSeq1.sub_tuple_tuple; have f3 := AutoSeq1.sub_list_list; have f4 := AutoSeq1.sub_tuple_list; have f5 := AutoSeq1.sub_list_tuple;
  have hz' : (items ++ items2).size ≤ sizeLine + 1 := by rw [Array.size_append]; exact hs2
  wp_walk using (wpAny_updateSeq hl rfl (hz := hc1) (_hz' := hz')), AutoSeq1.wpAny_loadPart' hl, AutoSeq1.wpAny_loadPart' hb; exact ⟨_, rfl, h⟩
theorem mt_extS : MtR X "list.extend" (rExtS X.K) := by
 intro pins s σ H x vs v us Q I rx rv h
 obtain ⟨l, b, xs, zs, rfl, rfl, hH, hB, hz, q⟩ := h
 cases rx
 obtain ⟨u, rfl, ru⟩ := rv.one
 cases ru
 obtain ⟨z, its, n, r, hl, e⟩ := I.lstM hH
 obtain ⟨its2, r2, ⟨o2, n2, e2, c2, d2, dt2⟩, z2⟩ := I.list hB
 obtain ⟨cls2, dict2, data2, sl2⟩ := o2
 dsimp only at c2 d2 dt2
 subst c2 d2 dt2
 have hl2 := r2.length
 have hsz : its.toArray.size + its2.toArray.size ≤ sizeLine := by rw [List.size_toArray, List.size_toArray]; omega
 have hlong : ¬ (!its.toArray.isEmpty && Builtin.List.listTooLong (its.toArray.size + its2.toArray.size)) = true := by
  rw [notLongL hsz, Bool.and_false]
  exact Bool.false_ne_true
 refine call_meets F.slot_list_extend ⟨_, e, rfl⟩ F.entry_list_extend (F.args_list_extend_2 _ _)
  (list_extend_any l its.toArray n b its2.toArray default n2 hlong (by rw [List.size_toArray]; omega) (by omega) sl2) ⟨e, e2, ?_⟩
 refine ⟨.non, _, I.lset (its' := its ++ its2) hH e (by simp) (r.append r2) ?_, rfl, q⟩
 rw [List.length_append]
 omega
theorem mut_extend : MutD X (rExtS X.K) extM := by
 intro H G a xs vs ds es ys Q gh hH hG hz hI hE hm hQ
 unfold extM at hm
 split at hm
 ·rename_i ds2
  split at hm
  ·rename_i hl
   cases hm
   obtain ⟨v, rfl, b, zs, rfl, h1, h2, h3⟩ := isL1 hE
   have hl' := hI.length
   have hl2 := h3.length
   have := million
   exact ⟨a, b, xs, zs, rfl, rfl, hH, gh.seq h1, by omega, hQ _ (by rw [List.length_append]; omega) (hI.append h3)⟩
  ·cases hm
 ·cases hm
theorem ext_ne : ∀ ds es c, extM ds es ≠ .exc c := by
 intro ds es c h
 unfold extM at h
 split at h
 ·split at h <;> cases h
 ·cases h
noncomputable def shareS' (F : FS) : FS := fun δ => F (share δ)
theorem q_share (h : PS X st (tS X B G₀ F)) : PS X st (tS X B G₀ (shareS' F)) :=
 ps_imp h fun D' σ H ⟨G, δ, R, hw⟩ => by
  obtain ⟨G1, R1, _⟩ := R.share
  exact ⟨G1, M.share δ, R1, hw⟩
end
@[simp] theorem s_getO0 (ds : List D) (δ : DS) : getO (some (.own ds) :: δ) 0 = .ok ds := nodef rfl
@[simp] theorem s_getOs (x : Option Sl) (δ : DS) (i : Nat) : getO (x :: δ) (i + 1) = getO δ i := nodef rfl
@[simp] theorem s_ownS (i : Nat) (fr : FA) (δ : DS) : ownS i fr δ = (fr δ).out δ fun ds => if ds.length ≤ 1000 then .nx (δ.set i (some (.own ds))) else .bad := nodef rfl
@[simp] theorem s_mutS (i : Nat) (m : List D → List D → Rs (List D)) (fr : FA) (δ : DS) : mutS i m fr δ = (getO δ i >>= fun ds => fr δ >>= fun es => m ds es).out δ fun ys => .nx (δ.set i (some (.own ys))) := nodef rfl
theorem s_extM {ds es : List D} (h : ds.length + es.length ≤ 1000000) : extM ds [.lst es] = .ok (ds ++ es) := by unfold extM; dsimp only; rw [if_pos h]
@[simp] theorem s_shareS (F : FS) (δ : DS) : shareS' F δ = F (share δ) := nodef rfl
@[simp] theorem s_share0 : share [] = [] := nodef rfl
end M

set_option Elab.async false
set_option linter.all false
set_option maxRecDepth 100000
set_option maxHeartbeats 4000000
namespace M
open PySem PySem.Spec PyProof.Rows L2
set_option autoImplicit false

theorem inv_enum {X : Cx} {pins : List (Addr × Obj)} {σ : St} {H : Hp} {s : Shared} {h' : Heap} {e it t : Addr} {o : HO} {t' : Nat} (I : Inv X pins σ H s) (k : ∀ b o, b ≠ e → b ≠ it → s.heap.get? b = some o → h'.get? b = some o)
  (f1 : FpOk X pins H e) (f2 : FpOk X pins H it) (ht : t = s.heap.objs.size) (new : ObjOk X.prog X.w (upd H t o) h' t o) : Inv X pins σ (upd H t o) { s with heap := h', toks := t' } := by
 have hn : H t = none := by rw [ht]; exact I.hok.fresh (Nat.le_refl _)
 have lt : ∀ b ob, s.heap.get? b = some ob → b ≠ t := fun b ob q => by rw [ht]; exact Nat.ne_of_lt (Heap.lt_size q)
 have nit : ∀ b u, H b = some u → b ≠ e ∧ b ≠ it := fun b u q => ⟨fun z => (by rw [z, f1.1] at q; cases q), fun z => (by rw [z, f2.1] at q; cases q)⟩
 refine I.step (g' := s.gens) (d' := s.drawn) (ch := [e, it]) (fun b hb => ?_) (fun b ob _ _ hc q _ => k b ob (fun z => hc (by simp [z])) (fun z => hc (by simp [z])) q) (fun b ob _ _ hc q _ => ⟨ob.slots, k b ob (fun z => hc (by simp [z])) (fun z => hc (by simp [z])) q⟩)
  (fun b ob _ q n => by rw [upd_ne (lt b ob q)]; exact n) (fun b ob hc q => ⟨ob, k b ob (fun z => hc (by simp [z])) (fun z => hc (by simp [z])) q⟩) (fun b xs q => by rw [upd_ne (ne_of_none q hn)]; exact q) (fun b ob xs q => by rw [upd_ne (ne_of_none q hn)]; exact q)
  (fun b ps q => ⟨#[], by rw [upd_ne (ne_of_none q hn), q]; simp⟩) (fun m hm => ?_) (fun b u q => ?_) I.bare
 ·have hb' : b = e ∨ b = it := by simpa using hb
  rcases hb' with z | z
  ·subst z; exact ⟨f1.2.2.2.1, f1.2.1, f1.2.2.2.2.1, f1.2.2.2.2.2⟩
  ·subst z; exact ⟨f2.2.2.2.1, f2.2.1, f2.2.2.2.2.1, f2.2.2.2.2.2⟩
 ·obtain ⟨o, es, ep, ho, r⟩ := hm
  exact ⟨o, es, ep, k _ o (Ne.symm f1.2.1) (Ne.symm f2.2.1) ho, r⟩
 ·by_cases hb : b = t
  ·subst hb; rw [upd_same] at q; cases q; exact new
  ·rw [upd_ne hb] at q
   refine (I.hok b u q).stay (fun c v hc z => k c v ?_ ?_ z) (fun c z => by rw [upd_ne (ne_of_none z hn)]; exact z) fun c xs z => by rw [upd_ne (ne_of_none z hn)]; exact z
   ·rcases hc with z1 | z1
    ·rw [z1]; exact (nit b u q).1
    ·exact (nit c _ z1).1
   ·rcases hc with z1 | z1
    ·rw [z1]; exact (nit b u q).2
    ·exact (nit c _ z1).2
noncomputable def Ite (K : PySem.W.Frag) (a : Addr) : It :=
 ⟨fun i H => ∃ xs x, SqL K H a xs ∧ xs[i]? = some x, fun i H x H' => ∃ t v, H t = none ∧ x = .ref t ∧ H' = upd H t (.tup [.int i, v]) ∧ ∀ xs, SqL K H a xs → xs[i]? = some v, fun i H => ∃ xs, SqL K H a xs ∧ xs.length ≤ i⟩
theorem turn_enum {P : Program} {w : World} {K : PySem.W.Frag} {elts : List Expr} {x1} {pos : Pos} (a e it : Addr) (hne : e ≠ it) : Turn P w K (.Tuple elts x1 pos) (Ite K a) [e, it] e (fun i h => ∃ old, IsEnum h e it (i : Nat) old ∧ h.IsListIter it a i) where
 mem := by simp
 obj := fun i h st b hb => by
  obtain ⟨old, h1, o, h2, c, d⟩ := st
  have e : b = e ∨ b = it := by simpa using hb
  rcases e with z | z
  ·subst z
   exact ⟨_, h1, fun v q => by
    have q' : Data.fields _ = Data.cell v := q
    cases q'⟩
  ·subst z
   exact ⟨o, h2, fun v z => by rw [d] at z; cases z⟩
 keep := fun i h h' st k => by
  obtain ⟨old, h1, h2⟩ := st
  exact ⟨old, k e (by simp) _ h1, h2.at fun o q => k it (by simp) o q⟩
 item := by
  intro X hP hw hK hc i pins s σ H E I hf st hg
  subst hP hw hK
  obtain ⟨old, he, hit⟩ := st
  obtain ⟨xs, x, hq, hx⟩ := hg
  obtain ⟨its, rv, p, hz⟩ := I.list hq
  obtain ⟨u, hu, ru⟩ := rv.get hx
  have fe := hf e (by simp)
  have fi := hf it (by simp)
  refine wpAny_pyNext_enum_item he hit p.isList (x := u) (by simpa using hu) hne fun h1 heo hit1 ht1 hz1 hk1 => ?_
  refine ⟨_, rfl, wpAny_letOwnedTupleGo_enum heo fun h2 he2 hs2 => ?_⟩
  replace hs2 : Heap.SameBut e h1 h2 := hs2
  have hte : s.heap.objs.size ≠ e := Nat.ne_of_gt (Heap.lt_size he)
  have ht2 : h2.get? s.heap.objs.size = some { cls := .type "tuple", data := .seq #[.int i s.toks, u] } := (hs2.2 _ hte).trans ht1
  have hn : H s.heap.objs.size = none := I.hok.fresh (Nat.le_refl _)
  have I1 : Inv X pins σ (upd H s.heap.objs.size (.tup [.int i, x])) { s with heap := h2, toks := s.toks + 1 } :=
   inv_enum I (fun b o hb1 hb2 q => (hs2.2 b hb1).trans (hk1 b o hb1 hb2 q)) fe fi rfl
    ⟨by show 2 ≤ sizeLine; decide, [.int i s.toks, u], .cons ⟨_, rfl⟩ (.cons ru .nil), ⟨_, ht2, rfl, 0, rfl⟩⟩
  refine ⟨.ref s.heap.objs.size, _, I1, rfl, ⟨s.heap.objs.size, x, hn, rfl, rfl, fun ys hy => by rw [I.list_inj hy hq]; exact hx⟩, ⟨u, he2, ?_⟩, fun b hb => ?_⟩
  ·exact hit1.at fun o q => (hs2.2 it (Ne.symm hne)).trans q
  ·have hb' : b = e ∨ b = it := by simpa using hb
   have hlt : b < s.heap.objs.size := by
    rcases hb' with z | z
    ·rw [z]; exact Heap.lt_size he
    ·obtain ⟨o, q, _⟩ := hit; rw [z]; exact Heap.lt_size q
   rw [upd_ne (Nat.ne_of_lt hlt)]
   exact (hf b hb).1
 done := by
  intro X hP hw hK hc i pins s σ H E I hf st hg
  subst hP hw hK
  obtain ⟨old, he, hit⟩ := st
  obtain ⟨xs, hq, hx⟩ := hg
  obtain ⟨its, rv, p, hz⟩ := I.list hq
  obtain ⟨f0, f1, f2, f3, f4, f5⟩ := hf it (by simp)
  have hl := rv.length
  exact wpAny_pyNext_enum_end (I.ok.hd hc) he hit p.isList (by simp; omega) fun h' eb => ⟨rfl, I.turned (t' := s.toks) (fun b o hb q => eb b o hb q) f0 f1 f3 f4 f5⟩
 self := fun _ _ _ _ _ st h => by
  obtain ⟨old, he, _⟩ := st
  exact wpAny_pyIter_enum he h
noncomputable def enumD (ds : List D) : List D := (ds.zipIdx 0).map fun x => .tup [.int x.2, x.1]
theorem enumD_get {ds : List D} {i : Nat} {d : D} (h : (enumD ds)[i]? = some d) : ∃ x, ds[i]? = some x ∧ d = .tup [.int i, x] := by
 unfold enumD at h
 rw [List.getElem?_map, List.getElem?_zipIdx] at h
 cases q : ds[i]? with
 | none => rw [q] at h; cases h
 | some x => rw [q] at h; simp at h; exact ⟨x, rfl, h.symm⟩
theorem itD_enum {X : Cx} {a : Addr} {xs : List V} {ds : List D} {G1 : Hp} (h1 : SqL X.K G1 a xs) (h3 : IsL X.K G1 ds xs) : ItD X (Ite X.K a) (enumD ds) G1 := by
 intro H G gg gh
 have hs : SqL X.K H a xs := (gg.trans gh).seq h1
 have hi := h3.same gg
 have hl : (enumD ds).length = ds.length := by unfold enumD; simp
 refine ⟨fun i d e => ?_, xs, hs, by rw [h3.length, hl]; exact Nat.le_refl _⟩
 obtain ⟨x, hx, rfl⟩ := enumD_get e
 obtain ⟨v, hv, ix⟩ := hi.get hx
 refine ⟨⟨xs, v, hs, hv⟩, fun y H2 ⟨t, v', hn, ey, eH, q⟩ => ?_⟩
 have := q xs hs
 rw [hv] at this; cases this
 subst ey eH
 exact ⟨upd G t (.tup [.int i, v]), Ext.laid gh hn, t, _, rfl, upd_same, by show 2 ≤ sizeLine; decide, .cons rfl (.cons (ix.same (same_upd (gh.free hn) _)) rfl)⟩
noncomputable def enumF (fe : FE) : FA := fun δ => fe δ >>= fun d => match d with
 | .lst ds => .ok (enumD ds)
 | _ => .bad
section
variable {X : Cx} {B G₀ : Hp} {e : Expr} {fe : FE} {p pos : Pos} {elts : List Expr} {x1 : _} {tp : Pos}
theorem q_enum {x1} (hm : X.mg "enumerate" = none) (he : PE X e (tE X B G₀ fe)) (hg : Gl X "enumerate" := by rfl) (hs : starEach [e] X.env = [(false, eval e X.env)] := by rfl) : PI X (.Tuple elts x1 tp) (.Call (.Name "enumerate" p) [e] [] pos) (tI X B G₀ (enumF fe)) := by
 intro pins s σ H Rk I ⟨G, δ, R, hw⟩
 have hb : bootBuiltins "enumerate" = some (.type "enumerate") := by rfl
 have hA : PA X [e] (tAs X B G₀ (aC fe a0)) := q_aC he q_a0 (by rw [hs]; rfl)
 have hw' : ((aC fe a0) δ >>= fun ds => match ds with | [.lst ds] => (.ok (enumD ds) : Rs (List D)) | _ => .bad).wp (fun c => Xo X c σ H G) fun ds => ∀ J H' G', Ext H G H' G' → ItD X J ds G' → Rk J H' := by
  revert hw
  unfold enumF aC a0
  cases fe δ with
  | ok d => cases d <;> exact fun z => z
  | exc c => exact fun z => z
  | bad => exact fun z => z
 refine Call_ (ld_blt I hg hm hb (PyProof.Rows.callWith_type1 (bindA hA I R hw' fun ds us vs s1 H1 G1 I1 R1 r1 e1 i1 hw1 => ?_) hs rfl))
 split at hw1
 ·rename_i ds2
  obtain ⟨v, rfl, a, xs, rfl, h1, h2, h3⟩ := isL1 i1
  obtain ⟨u, rfl, ru⟩ := vals1 r1
  cases ru
  obtain ⟨its, rv, pl, hz⟩ := I1.list (R1.ext.gh.seq h1)
  refine call_enumerate_list pl.isList fun h' he' hit' hz' hk' => ?_
  have I2 : Inv X pins σ H1 { s1 with heap := h' } := I1.kept (t' := s1.toks) hk'
  refine wpAny_pyIter_enum he' ?_
  have fp1 : ∀ b ∈ [s1.heap.objs.size + 1, s1.heap.objs.size], FpOk X pins H1 b := fun b hb => by
   have hb' : b = s1.heap.objs.size + 1 ∨ b = s1.heap.objs.size := by simpa using hb
   have : s1.heap.objs.size ≤ b := by omega
   exact I1.fpOk this (I1.hok.fresh this)
  exact ⟨s1.heap.objs.size + 1, [s1.heap.objs.size + 1, s1.heap.objs.size], _, _, H1, rfl, I2, turn_enum a (s1.heap.objs.size + 1) s1.heap.objs.size (Nat.succ_ne_self _), ⟨.none, he', hit'⟩, fp1, hw1 _ H1 G1 e1 (itD_enum h1 h3)⟩
 ·exact hw1.elim
end
noncomputable def tgT (i j : Nat) (d : D) (δ : DS) : Option DS := match d with
 | .tup [a, b] => some ((δ.set i (some (.v a))).set j (some (.v b)))
 | _ => none
end M

set_option Elab.async false
set_option linter.all false
set_option maxRecDepth 100000
set_option maxHeartbeats 4000000
namespace M
open PySem PySem.Spec PyProof.Rows L2
set_option autoImplicit false

noncomputable def compOk2 (sc scope : Scope) (N : List Str) (x y0 : Str) (fr : List (Str × Nat)) : Bool :=
 (scope.kind == .function) && (sc.kind == .function) && scope.names.all (fun y => !(y.2 == .cell)) && scope.names.all (fun y => !(y.2 == .local) || scope.names.lookup y.1 == some .local) &&
 scope.names.all (fun y => !(y.2 == .free) || (sc.names.lookup y.1 == some .cell || sc.names.lookup y.1 == some .free)) && (scope.names.lookup x == some .local) && (scope.names.lookup y0 == some .local) &&
 fr.all (fun y => scope.names.lookup y.1 == some .free && scope.names.contains (y.1, .free) && (sc.names.lookup y.1 == some .cell || sc.names.lookup y.1 == some .free) && N[y.2]? == some y.1) && decide ((x :: y0 :: fr.map (·.1)).Nodup)
structure CompOk2 (sc scope : Scope) (N : List Str) (x y0 : Str) (fr : List (Str × Nat)) : Prop where
 kind : scope.kind = .function
 skind : sc.kind = .function
 cell : ∀ y ∈ scope.names, y.2 ≠ .cell
 loc : ∀ y ∈ scope.names, y.2 = .local → scope.names.lookup y.1 = some .local
 free : ∀ y ∈ scope.names, y.2 = .free → sc.names.lookup y.1 = some .cell ∨ sc.names.lookup y.1 = some .free
 hx : scope.names.lookup x = some .local
 hy : scope.names.lookup y0 = some .local
 frs : ∀ y ∈ fr, scope.names.lookup y.1 = some .free ∧ (y.1, NameKind.free) ∈ scope.names ∧ (sc.names.lookup y.1 = some .cell ∨ sc.names.lookup y.1 = some .free) ∧ N[y.2]? = some y.1
 nd : (x :: y0 :: fr.map (·.1)).Nodup
theorem CompOk2.of {sc scope : Scope} {N : List Str} {x y0 : Str} {fr : List (Str × Nat)} (h : compOk2 sc scope N x y0 fr = true) : CompOk2 sc scope N x y0 fr := by
 unfold compOk2 at h
 simp only [Bool.and_eq_true, List.all_eq_true, Bool.or_eq_true, Bool.not_eq_true', beq_iff_eq, beq_eq_false_iff_ne, decide_eq_true_eq, List.contains_iff_mem, ne_eq] at h
 obtain ⟨⟨⟨⟨⟨⟨⟨⟨h1, h2⟩, h3⟩, h4⟩, h5⟩, h6⟩, h6'⟩, h7⟩, h8⟩ := h
 refine ⟨h1, h2, fun y hy => h3 y hy, fun y hy e => ?_, fun y hy e => ?_, h6, h6', fun y hy => ?_, h8⟩
 ·rcases h4 y hy with q | q
  ·exact absurd e q
  ·exact q
 ·rcases h5 y hy with q | q
  ·exact absurd e q
  ·exact q
 ·obtain ⟨⟨⟨q1, q2⟩, q3⟩, q4⟩ := h7 y hy
  exact ⟨q1, q2, q3, q4⟩

noncomputable def compCx2 (X : Cx) (scope : Scope) (x y0 : Str) (fr : List (Str × Nat)) (C : Addr) (s₀ : Shared) (H₀ : Hp) (fp : List Addr) : Cx :=
 { X with N := x :: y0 :: fr.map (·.1), s₀ := s₀, H₀ := H₀, env := compEnvC scope (clOf X.env.cells scope.names []) C X.env, outer := X.stack, stack := X.stack, ex := fp, fn := fun _ => false, pn := [], xe := fun _ _ => False }
noncomputable def innerS2 (σ : St) (fr : List (Str × Nat)) (v w : Option V) : St := v :: w :: fr.map fun y => (σ[y.2]?).join
noncomputable def innerD2 (δ : DS) (fr : List (Str × Nat)) (v w : Option Sl) : DS := v :: w :: fr.map fun y => visS (δ[y.2]?).join
theorem comp_ok2 {X : Cx} {pins : List (Addr × Obj)} {σ : St} {H : Hp} {s s' : Shared} {scope : Scope} {x y0 : Str} {fr : List (Str × Nat)} {C : Addr} {fp : List Addr} {m : Str → Option Value} (c : CompOk2 X.env.scope scope X.N x y0 fr) (I : Inv X pins σ H s) (hf : ∀ b ∈ fp, FpOk X pins H b) (hfl : ∀ b ∈ fp, b < s.heap.objs.size)
  (hC : C = s.heap.objs.size) (hk : ∀ b o, s.heap.get? b = some o → s'.heap.get? b = some o) (hos : s'.os = s.os) (hgn : s'.gens = s.gens) (hn : s'.heap.Ns C m) :
  Inv (compCx2 X scope x y0 fr C s H fp) [] (innerS2 σ fr none none) H s' := by
 have okX := I.ok
 have hfree : ∀ y ∈ scope.names, y.2 = .free → ∃ d, X.env.cells.lookup y.1 = some d := fun y hy e => okX.has y.1 (c.free y hy e)
 have hsub := clOf_sub (cells := X.env.cells) scope.names [] hfree (fun y d e => by cases e)
 have hCs : s.heap.objs.size ≤ C := by rw [hC]; exact Nat.le_refl _
 refine ⟨⟨okX.mod, c.kind, okX.glob, okX.blt, hCs, fun y z d h1 h2 => okX.inj y z d (hsub y d h1) (hsub z d h2), fun y hy => ?_, fun y d h _ => (by cases h), okX.hd, okX.frames, .inl rfl, fun b hb => ⟨?_, fun y d e z => ?_⟩, I.bs, Nat.le_trans okX.bsz I.sz, fun b o e hb => ?_, fun b hb hz => ?_, I.stack, I.stkFree⟩,
  hos, (by rw [hgn]; exact I.bare), Un.kept hk, ⟨m, hn, fun i y v h1 h2 h3 => ?_⟩, fun y d e => ?_, ?_, fun y d e => I.freeC y d (hsub y d e), fun p hp => (by cases hp), I.hok.kept hk, ?_⟩
 ·have hy' : ∃ kd, (relabel scope X.env).names.lookup y = some kd ∧ (kd = .cell ∨ kd = .free) := by
   rcases hy with h | h
   ·exact ⟨_, h, .inl rfl⟩
   ·exact ⟨_, h, .inr rfl⟩
  obtain ⟨kd, h1, h2⟩ := hy'
  have hm := relabel_back (env := X.env) c.cell h1 h2
  exact Option.isSome_iff_exists.mp (clOf_has scope.names [] y (.inl hm))
 ·exact Nat.ne_of_lt (Nat.lt_of_lt_of_le (hfl b hb) hCs)
 ·exact (hf b hb).2.2.2.2.1 y d (hsub y d e) z
 ·have hb' := hf b hb
  rcases hb'.2.2.2.1 with z | z
  ·exact okX.noex b o e z
  ·exact absurd (Nat.lt_of_lt_of_le (Heap.lt_size e) (Nat.le_trans okX.bsz z)) (Nat.lt_irrefl _)
 ·have := I.stkSub b hz
  rcases List.mem_cons.mp this with e | e
  ·exact (hf b hb).2.1 e
  ·exact (hf b hb).2.2.1 e
 ·match i, h1, h2 with
  | 0, h1, h2 => cases h2
  | 1, h1, h2 => cases h2
  | j + 2, h1, h2 =>
   have h1' : (fr.map (·.1))[j]? = some y := h1
   have h2' : (fr.map fun y => (σ[y.2]?).join)[j]? = some (some v) := h2
   rw [List.getElem?_map] at h1' h2'
   cases q : fr[j]? with
   | none => rw [q] at h1'; cases h1'
   | some z =>
    rw [q] at h1' h2'
    cases h1'
    obtain ⟨q1, q2, q3, q4⟩ := c.frs z (List.mem_of_getElem? q)
    have hσ : σ[z.2]? = some (some v) := by
     have : (σ[z.2]?).join = some v := by simpa using h2'
     cases e : σ[z.2]? with
     | none => rw [e] at this; cases this
     | some o => rw [e] at this; cases o with
      | none => cases this
      | some w => cases this; rfl
    have vis : Vis X.env.scope z.1 := by rcases q3 with k | k; exact .inr (.inl k); exact .inr (.inr k)
    obtain ⟨mX, hnX, hl⟩ := I.loc
    obtain ⟨u, r, l⟩ := hl z.2 z.1 v q4 hσ vis
    refine ⟨u, r, .inr ⟨lookup_relabel_free q1, ?_⟩⟩
    rcases l with ⟨k, _⟩ | ⟨k, d, hd, hcell⟩
    ·have k' : X.env.scope.names.lookup z.1 = some .local := k
     rcases q3 with q3 | q3 <;> (rw [q3] at k'; cases k')
    ·obtain ⟨d', hd'⟩ := Option.isSome_iff_exists.mp (clOf_has (cells := X.env.cells) scope.names [] z.1 (.inl q2))
     have e := hsub z.1 d' hd'
     rw [hd] at e; cases e
     obtain ⟨o, ho, hdt⟩ := hcell
     exact ⟨d, hd', o, hk d o ho, hdt⟩
 ·obtain ⟨v, o, ho, hd⟩ := I.cell y d (hsub y d e)
  exact ⟨v, o, hk d o ho, hd⟩
 ·show H C = none
  rw [hC]; exact I.hok.fresh (Nat.le_refl _)
 ·show (innerS2 σ fr none none).length = (x :: y0 :: fr.map (·.1)).length
  simp [innerS2]
inductive Tst2 (X : Cx) (scope : Scope) (x y0 : Str) (fr : List (Str × Nat)) : List Expr → (DS → Rs Bool) → Prop
 | nil : Tst2 X scope x y0 fr [] fun _ => .ok true
 | one {c : Expr} {g : DS → Rs Bool} (h : ∀ C s₀ H₀ fp B G₀, PT (compCx2 X scope x y0 fr C s₀ H₀ fp) c (tT (compCx2 X scope x y0 fr C s₀ H₀ fp) B G₀ g)) : Tst2 X scope x y0 fr [c] g
theorem Tst2.run {X : Cx} {scope : Scope} {x y0 : Str} {fr : List (Str × Nat)} {ifs : List Expr} {g : DS → Rs Bool} (h : Tst2 X scope x y0 fr ifs g) {C : Addr} {s₀ : Shared} {H₀ : Hp} {fp : List Addr} {pins : List (Addr × Obj)} {s : Shared} {σ : St} {B G₀ H G : Hp} {δ : DS} {b : Bool} {Q : Bool → Shared → Prop}
  (I : Inv (compCx2 X scope x y0 fr C s₀ H₀ fp) pins σ H s) (R : Rel (compCx2 X scope x y0 fr C s₀ H₀ fp) B G₀ σ H G δ) (e : g δ = .ok b) (hQ : ∀ s' H' G', Inv (compCx2 X scope x y0 fr C s₀ H₀ fp) pins σ H' s' → Ext H G H' G' → Q b s') :
  wpAny (model X.prog X.w) X.A (forIn ifs true fun c r => if r = true then do let ok ← isTrue c (compCx2 X scope x y0 fr C s₀ H₀ fp).env (eval c (compCx2 X scope x y0 fr C s₀ H₀ fp).env); pure (ForInStep.yield ok) else pure (ForInStep.yield r)) Q (fun _ _ => False) s := by
 cases h with
 | nil =>
  cases e
  exact wpAny_tests_nil (hQ s H G I (Ext.refl R.ext.gh))
 | one h =>
  refine wpAny_tests_one (thn (h C s₀ H₀ fp B G₀ pins s σ H (fun b' H' => b' = b ∧ ∃ G', Ext H G H' G') I ⟨G, δ, R, ?_⟩) fun b' s' ⟨H', I', e1, G', e2⟩ => ?_)
  ·rw [e]; exact fun H' G' e => ⟨rfl, G', e⟩
  ·subst e1; exact hQ s' H' G' I' e2

theorem rel_inner2 {X : Cx} {B G₀ : Hp} {σ : St} {H G H1 G1 : Hp} {δ : DS} {Y : Cx} (hK : Y.K = X.K) (R : Rel X B G₀ σ H G δ) (gg : Same G G1) (gh : Same G1 H1) (fr : List (Str × Nat)) {d d0 : D} {v v0 : V} (hv : Is X.K G1 d v) (hv0 : Is X.K G1 d0 v0) : Rel Y (fun _ => none) G1 (innerS2 σ fr (some v) (some v0)) H1 G1 (innerD2 δ fr (some (.v d)) (some (.v d0))) := by
 have at_ : ∀ (j : Nat) (e : Sl), (innerD2 δ fr (some (.v d)) (some (.v d0)))[j + 2]? = some (some e) → ∃ z d', fr[j]? = some z ∧ e = .v d' ∧ δ[z.2]? = some (some (.v d')) := fun j e q => by
  have q' : (fr.map fun y => visS (δ[y.2]?).join)[j]? = some (some e) := q
  rw [List.getElem?_map] at q'
  cases qz : fr[j]? with
  | none => rw [qz] at q'; cases q'
  | some z =>
   rw [qz] at q'
   have q2 : visS (δ[z.2]?).join = some e := by simpa using q'
   cases e1 : δ[z.2]? with
   | none => rw [e1] at q2; cases q2
   | some o =>
    rw [e1] at q2
    cases o with
    | none => cases q2
    | some sl =>
     cases sl with
     | v d' => cases q2; exact ⟨z, d', rfl, rfl, e1⟩
     | ow k ds => cases q2
 refine ⟨⟨fun b o e => (by cases e), Same.refl _, gh, fun _ _ e => .inl e⟩, by simp [innerS2, innerD2], fun i d' q => ?_, fun i kA ds q => ?_, fun i j kB kC ds es a q1 _ _ _ => ?_⟩
 ·match i, q with
  | 0, q => cases q; exact ⟨v, rfl, by rw [hK]; exact hv⟩
  | 1, q => cases q; exact ⟨v0, rfl, by rw [hK]; exact hv0⟩
  | j + 2, q =>
   obtain ⟨z, d2, h1, h2, h3⟩ := at_ j _ q
   cases h2
   obtain ⟨w, e1, e2⟩ := R.val z.2 _ h3
   refine ⟨w, ?_, by rw [hK]; exact e2.same gg⟩
   show (fr.map fun y => (σ[y.2]?).join)[j]? = some (some w)
   rw [List.getElem?_map, h1]
   simp [e1]
 ·match i, q with
  | 0, q => cases q
  | 1, q => cases q
  | j + 2, q => obtain ⟨z, d2, h1, h2, h3⟩ := at_ j _ q; cases h2
 ·match i, q1 with
  | 0, q1 => cases q1
  | 1, q1 => cases q1
  | j + 2, q1 => obtain ⟨z, d2, h1, h2, h3⟩ := at_ j _ q1; cases h2
noncomputable def onPair {α : Type} (f : D → D → Rs α) : D → Rs α
 | .tup [a, b] => f a b
 | _ => .bad
theorem onPair_ok {α : Type} {f : D → D → Rs α} {d : D} {r : α} (h : onPair f d = .ok r) : ∃ a b, d = .tup [a, b] := by
 unfold onPair at h
 split at h
 ·exact ⟨_, _, rfl⟩
 ·cases h
inductive CompI2 (X : Cx) (Y : Cx) (fp : List Addr) (tn : Nat → Heap → Prop) (inn : Option V → Option V → St) (cl : List D → Rs (List D)) (H2 G2 : Hp) (Dl : Addr) (ds all : List D) (n : Nat) (s' : Shared) : Prop
 | mk (k : Nat) (vx vw : Option V) (H' G' : Hp) (ys : List V) (es rest : List D) (h1 : k ≤ ds.length) (h2 : n = ds.length - k) (h3 : Inv Y [] (inn vx vw) H' s') (h4 : tn k s'.heap) (h5 : ∀ b ∈ fp, H' b = none)
   (h6 : Ext H2 G2 H' G') (h7 : G' Dl = none) (h8 : H' Dl = some (.lst ys)) (h9 : IsL X.K G' es ys) (h10 : es.length ≤ k) (h11 : cl (ds.drop k) = .ok rest) (h12 : all = es ++ rest)
theorem pd_comp2 {X : Cx} {B G₀ : Hp} {elt iter : Expr} {x y0 : Str} {px py pt : Pos} {x1} {ifs : List Expr} {scope sc : Scope} {N : List Str} {pos : Pos} {f : DS → Rs (List D)} {fe : DS → Rs D} {gt : DS → Rs Bool} (fr : List (Str × Nat)) (hok : compOk2 sc scope N x y0 fr = true) (hsc : X.env.scope = sc) (hN : X.N = N) (hcalm : X.calm = true)
  (hi : PI X (.Tuple [.Name x px, .Name y0 py] x1 pt) iter (tI X B G₀ f)) (ht : Tst2 X scope x y0 fr ifs gt) (he : ∀ C s₀ H₀ fp B' G', PE (compCx2 X scope x y0 fr C s₀ H₀ fp) elt (tE (compCx2 X scope x y0 fr C s₀ H₀ fp) B' G' fe))
  (hs : ∀ x, foldedSetIterable iter X.env x = pure x := by intro _; rfl) :
  PE X (.ListComp elt [⟨.Tuple [.Name x px, .Name y0 py] x1 pt, iter, ifs, 0⟩] scope pos) (tE X B G₀ fun δ => f δ >>= fun ds => bigR ds (compL (onPair fun a b => fe (innerD2 δ fr (some (.v a)) (some (.v b)))) (onPair fun a b => gt (innerD2 δ fr (some (.v a)) (some (.v b)))) ds)) := by
 subst hsc; subst hN
 have c := CompOk2.of hok
 intro pins s σ H Q I ⟨G, δ, R, hw⟩
 have hfree : ∀ y ∈ scope.names, y.2 = .free → ∃ d, X.env.cells.lookup y.1 = some d := fun y hy e => I.ok.has y.1 (c.free y hy e)
 rw [eval_ListComp]
 refine wpAny_comprehension_free (use := none) rfl hs (closureFor_cl hfree) c.kind c.loc ?_
 show wpAny (model X.prog X.w) X.A (eval iter X.env) _ X.xe s
 unfold W at hw
 rw [wp_bind] at hw
 refine thn (hi pins s σ H (fun J H2 => ∃ G2 ds, Ext H G H2 G2 ∧ ItD X J ds G2 ∧ (bigR ds (compL (onPair fun a b => fe (innerD2 δ fr (some (.v a)) (some (.v b)))) (onPair fun a b => gt (innerD2 δ fr (some (.v a)) (some (.v b)))) ds)).wp (fun c => Xo X c σ H G) fun d => ∀ v H' G', Ext H G H' G' → Is X.K G' d v → Q v H') I
  ⟨G, δ, R, Rs.wp.mono hw (fun _ x => x) fun ds q J H2 G2 e2 hJ => ⟨G2, ds, e2, hJ, q⟩⟩) fun v1 s1 h1 => thn h1 fun itv s2 h2 => ?_
 obtain ⟨it, fp, tn, J, H2, e, I2, T, st2, f2, G2, ds, e2, hJ, hq⟩ := h2
 subst e
 have hq : ds.length ≤ 1000000 ∧ ∃ all, compL (onPair fun a b => fe (innerD2 δ fr (some (.v a)) (some (.v b)))) (onPair fun a b => gt (innerD2 δ fr (some (.v a)) (some (.v b)))) ds = .ok all ∧ ∀ v H' G', Ext H G H' G' → Is X.K G' (.lst all) v → Q v H' := by
  unfold bigR at hq
  split at hq
  ·rename_i hl
   refine ⟨hl, ?_⟩
   cases e : compL (onPair fun a b => fe (innerD2 δ fr (some (.v a)) (some (.v b)))) (onPair fun a b => gt (innerD2 δ fr (some (.v a)) (some (.v b)))) ds with
   | ok all => rw [e] at hq; exact ⟨all, rfl, hq⟩
   | exc c => rw [e] at hq; exact hq.elim
   | bad => rw [e] at hq; exact hq.elim
  ·exact hq.elim
 obtain ⟨hlen, all, hall, hq⟩ := hq
 refine wpAny_newObj_type ?_ (Nat.zero_le _)
 -- the new list
 generalize hD : s2.heap.objs.size = Dl
 have I3 : Inv X pins σ (upd H2 Dl (.lst [])) { s2 with heap := s2.heap.push { cls := .type "list", dict := none, data := .seq ([] : List Value).toArray } } := by
  have := I2.lnew (ys := []) (its := []) (t' := s2.toks) .nil (Nat.zero_le _)
  rw [hD] at this
  exact this
 have hDn : H2 Dl = none := by rw [← hD]; exact I2.hok.fresh (Nat.le_refl _)
 generalize hs3 : ({ s2 with heap := s2.heap.push { cls := .type "list", dict := none, data := .seq ([] : List Value).toArray } } : Shared) = s3 at I3 ⊢
 have k23 : ∀ b o, s2.heap.get? b = some o → s3.heap.get? b = some o := fun b o e => by rw [← hs3]; exact Heap.get?_push_of_some _ e
 have f3 : ∀ b ∈ fp, FpOk X pins (upd H2 Dl (.lst [])) b := fun b hb => by
  obtain ⟨q0, q1, q2, q3, q4, q5⟩ := f2 b hb
  obtain ⟨o, ho, _⟩ := T.obj 0 _ st2 b hb
  refine ⟨?_, q1, q2, q3, q4, q5⟩
  rw [upd_ne (by rw [← hD]; exact Nat.ne_of_lt (Heap.lt_size ho))]
  exact q0
 have hfl : ∀ b ∈ fp, b < s3.heap.objs.size := fun b hb => by
  obtain ⟨o, ho, _⟩ := T.obj 0 _ st2 b hb
  exact Heap.lt_size (k23 b o ho)
 refine wpAny_newFunctionEnv c.cell (by intro y hy; cases hy) (fun h' hns hsb => ?_) c.kind
 have k34 : ∀ b o, s3.heap.get? b = some o → h'.get? b = some o := fun b o e => hsb.extBut b o (Nat.ne_of_lt (Heap.lt_size e)) (Heap.get?_push_of_some _ e)
 generalize hCd : s3.heap.objs.size = C at hns hsb
 show codeAny (model X.prog X.w) X.A (.compStart _ 0 (.ref it) (.ref Dl) (compEnvC scope (clOf X.env.cells scope.names []) C X.env)) _ _
 have IY : Inv (compCx2 X scope x y0 fr C s3 (upd H2 Dl (.lst [])) fp) [] (innerS2 σ fr none none) (upd H2 Dl (.lst [])) { s3 with heap := h', toks := s3.toks + ([] : List (Str × Value)).length } :=
  comp_ok2 c I3 f3 hfl hCd.symm k34 rfl rfl hns
 have st4 : tn 0 h' := T.keep 0 _ _ st2 fun b hb o e => k34 b o (k23 b o e)
 generalize hs4 : ({ s3 with heap := h', toks := s3.toks + ([] : List (Str × Value)).length } : Shared) = s4 at IY ⊢
 have st4 : tn 0 s4.heap := by rw [← hs4]; exact st4
 -- the loop
 have loop : codeAny (model X.prog X.w) X.A (.compLoop (.ListComp elt [⟨.Tuple [.Name x px, .Name y0 py] x1 pt, iter, ifs, 0⟩] scope pos) 0 (.ref it) (.ref Dl) (compEnvC scope (clOf X.env.cells scope.names []) C X.env)) (compPost (model X.prog X.w) X.A X.xe none (EP X pins σ Q) (.ref Dl) C) s4 := by
  refine comp_loop (CompI2 X (compCx2 X scope x y0 fr C s3 (upd H2 Dl (.lst [])) fp) fp tn (innerS2 σ fr) (compL (onPair fun a b => fe (innerD2 δ fr (some (.v a)) (some (.v b)))) (onPair fun a b => gt (innerD2 δ fr (some (.v a)) (some (.v b))))) H2 G2 Dl ds all) ?_ ds.length
   ⟨0, none, none, _, G2, [], [], all, Nat.zero_le _, rfl, IY, st4, fun b hb => (f3 b hb).1, Ext.own e2.gh hDn, e2.gh.free hDn, upd_same, rfl, Nat.le_refl _, hall, rfl⟩
  rintro n s5 ⟨k, vx, vw, H5, G5, ys, es, rest, hk, rfl, I5, st5, fr5, e5, gD5, hD5, hL5, hz5, hr5, ha5⟩
  have f5 : ∀ {H' : Hp}, (∀ b ∈ fp, H' b = none) → ∀ {pins' : List (Addr × Obj)}, (∀ p ∈ pins', p.1 ∉ fp) → ∀ b ∈ fp, FpOk (compCx2 X scope x y0 fr C s3 (upd H2 Dl (.lst [])) fp) pins' H' b := fun {H'} hn {pins'} hp b hb => by
   obtain ⟨q1, q2⟩ := IY.ok.exf b hb
   exact ⟨hn b hb, q1, IY.ok.exfs b hb, .inl hb, q2, fun p hp' z => hp p (by simpa [compCx2] using hp') (z ▸ hb)⟩
  have nopins : ∀ p ∈ ([] : List (Addr × Obj)), p.1 ∉ fp := fun p hp => by cases hp
  obtain ⟨j1, j2⟩ := hJ H5 G5 e5.gg e5.gh
  by_cases hlt : k < ds.length
  ·have hd : ds[k]? = some ds[k] := List.getElem?_eq_getElem hlt
   obtain ⟨go, yl⟩ := j1 k _ hd
   rw [List.drop_eq_getElem_cons hlt] at hr5
   refine wpAny_mono (T.item (compCx2 X scope x y0 fr C s3 (upd H2 Dl (.lst [])) fp) rfl rfl rfl hcalm k [] s5 _ H5 (fun _ _ => False) I5 (f5 fr5 nopins) st5 go) (fun r s6 ⟨u, hr, h6⟩ => ?_) fun _ _ z => z.elim
   subst hr
   refine wpAny_mono h6 (fun _ s7 ⟨xv, H7, I7, r7, y7, st7, fr7⟩ => ?_) fun _ _ z => z.elim
   obtain ⟨G7, e7, i7⟩ := yl xv H7 y7
   have I7' := I7.pinned (f5 fr7 nopins) (T.obj _ _ st7)
   -- the target
   have hpair : ∃ d1 d2, ds[k] = .tup [d1, d2] := by
    unfold compL at hr5
    cases qt : (onPair fun a b => gt (innerD2 δ fr (some (.v a)) (some (.v b)))) ds[k] with
    | ok b => exact onPair_ok qt
    | exc c => rw [qt] at hr5; cases hr5
    | bad => rw [qt] at hr5; cases hr5
   obtain ⟨d1, d2, hds⟩ := hpair
   rw [hds] at i7 hr5
   obtain ⟨pa, pxs, rfl, hp1, hp2, hp3⟩ := i7
   obtain ⟨xa, xb, rfl, ia, ib⟩ := isL2 hp3
   have hg : PG (compCx2 X scope x y0 fr C s3 (upd H2 Dl (.lst [])) fp) (.Tuple [.Name x px, .Name y0 py] x1 pt) (gTup (compCx2 X scope x y0 fr C s3 (upd H2 Dl (.lst [])) fp).K 2 (gCons (gName 0) (gCons (gName 1) gNil))) :=
    pg_tup hcalm (pgs_cons (pg_name c.nd rfl (.inl (lookup_relabel_local c.hx)) (.inr (lookup_relabel_local c.hx))) (pgs_cons (pg_name c.nd rfl (.inl (lookup_relabel_local c.hy)) (.inr (lookup_relabel_local c.hy))) pgs_nil))
   refine wpAny_mono (hg _ s7 _ H7 (.ref pa) u (fun σ' H' => σ' = innerS2 σ fr (some xa) (some xb) ∧ H' = H7) I7' r7 ⟨pa, [xa, xb], rfl, SqT.same e7.gh hp1, rfl, xa, [xb], rfl, xb, [], rfl, rfl, by simp [innerS2], rfl⟩) (fun _ s8 ⟨σ8, H8, I8, hσ8, hH8⟩ => ?_) fun _ _ z => z.elim
   subst hσ8; subst hH8
   have R8 := rel_inner2 (X := X) (Y := compCx2 X scope x y0 fr C s3 (upd H2 Dl (.lst [])) fp) rfl (R.mono e2) (e5.gg.trans e7.gg) e7.gh fr ia ib
   -- the test
   unfold compL at hr5
   have done : ∀ {s9 : Shared} {H9 G9 : Hp} {ys9 : List V} {es9 : List D}, Inv (compCx2 X scope x y0 fr C s3 (upd H2 Dl (.lst [])) fp) ([] ++ pinsAt fp s7.heap) (innerS2 σ fr (some xa) (some xb)) H9 s9 → Ext H2 G2 H9 G9 → G9 Dl = none → H9 Dl = some (.lst ys9) → IsL X.K G9 es9 ys9 → es9.length ≤ k + 1 → ∀ rest9,
     compL (onPair fun a b => fe (innerD2 δ fr (some (.v a)) (some (.v b)))) (onPair fun a b => gt (innerD2 δ fr (some (.v a)) (some (.v b)))) (ds.drop (k + 1)) = .ok rest9 → all = es9 ++ rest9 → ∃ m, m < ds.length - k ∧ CompI2 X (compCx2 X scope x y0 fr C s3 (upd H2 Dl (.lst [])) fp) fp tn (innerS2 σ fr) (compL (onPair fun a b => fe (innerD2 δ fr (some (.v a)) (some (.v b)))) (onPair fun a b => gt (innerD2 δ fr (some (.v a)) (some (.v b))))) H2 G2 Dl ds all m s9 := fun {s9 H9 G9 ys9 es9} I9 x1 x2 x3 x4 x5 rest9 x6 x7 => by
    refine ⟨ds.length - (k + 1), by omega, k + 1, some xa, some xb, H9, G9, ys9, es9, rest9, hlt, rfl, I9.unpinned, T.keep _ _ _ st7 fun b hb o e => (I9.pin (b, o) (List.mem_append_right _ (List.mem_append_right _ (mem_pinsAt hb e)))).1, fun b hb => ?_, x1, x2, x3, x4, x5, x6, x7⟩
    obtain ⟨o, e, d⟩ := T.obj _ _ st7 b hb
    exact (I9.pin (b, o) (List.mem_append_right _ (List.mem_append_right _ (mem_pinsAt hb e)))).2.1
   have keepD : ∀ {Ha Ga Hb Gb : Hp}, Ext Ha Ga Hb Gb → Ga Dl = none → (∃ o, Ha Dl = some o) → Gb Dl = none := fun {Ha Ga Hb Gb} e g ⟨o, h⟩ => by
    cases q : Gb Dl with
    | none => rfl
    | some z =>
     rcases e.new Dl z q with w | w
     ·rw [g] at w; cases w
     ·rw [h] at w; cases w
   have e57 := e5.trans e7
   have gD7 := keepD e7 gD5 ⟨_, hD5⟩
   have hD7 := e7.hh _ _ hD5
   have onp : ∀ {α : Type} (f : D → D → Rs α), onPair f (.tup [d1, d2]) = f d1 d2 := fun f => rfl
   rw [onp, onp] at hr5
   cases qt : gt (innerD2 δ fr (some (.v d1)) (some (.v d2))) with
   | exc cc => rw [qt] at hr5; cases hr5
   | bad => rw [qt] at hr5; cases hr5
   | ok b =>
    rw [qt] at hr5
    refine wpAny_mono (ht.run I8 R8 qt (Q := fun ok s9 => ok = b ∧ ∃ H9 G9, Inv (compCx2 X scope x y0 fr C s3 (upd H2 Dl (.lst [])) fp) ([] ++ pinsAt fp s7.heap) (innerS2 σ fr (some xa) (some xb)) H9 s9 ∧ Ext H8 G7 H9 G9) fun s9 H9 G9 I9 e9 => ⟨rfl, H9, G9, I9, e9⟩) (fun ok s9 ⟨hok9, H9, G9, I9, e9⟩ => ?_) fun _ _ z => z.elim
    subst hok9
    have gD9 := keepD e9 gD7 ⟨_, hD7⟩
    have hD9 := e9.hh _ _ hD7
    cases ok with
    | false => exact done I9 (e57.trans e9) gD9 hD9 (hL5.same (e7.gg.trans e9.gg)) (by omega) rest hr5 ha5
    | true =>
     dsimp only at hr5
     cases qe : fe (innerD2 δ fr (some (.v d1)) (some (.v d2))) with
     | exc cc => rw [qe] at hr5; cases hr5
     | bad => rw [qe] at hr5; cases hr5
     | ok ev =>
      rw [qe] at hr5
      dsimp only at hr5
      cases qr : compL (onPair fun a b => fe (innerD2 δ fr (some (.v a)) (some (.v b)))) (onPair fun a b => gt (innerD2 δ fr (some (.v a)) (some (.v b)))) (ds.drop (k + 1)) with
      | exc cc => rw [qr] at hr5; cases hr5
      | bad => rw [qr] at hr5; cases hr5
      | ok rest9 =>
       rw [qr] at hr5
       cases hr5
       have R9 := R8.mono e9
       refine wpAny_mono (he C s3 (upd H2 Dl (.lst [])) fp (fun _ => none) G7 _ s9 _ H9 (fun v H' => ∃ G', Ext H9 G9 H' G' ∧ Is X.K G' ev v) I9 ⟨G9, _, R9, ?_⟩) (fun yv s10 ⟨v10, H10, I10, r10, G10, e10, i10⟩ => ?_) fun _ _ z => z.elim
       ·rw [qe]; exact fun v H' G' e i => ⟨G', e, i⟩
       have hD10 := e10.hh _ _ hD9
       have gD10 := keepD e10 gD9 ⟨_, hD9⟩
       have hl10 : ys.length < sizeLine := by
        have := hL5.length
        have h1 : (1000000 : Nat) < sizeLine := by decide
        omega
       refine wpAny_mono (mt_append (X := compCx2 X scope x y0 fr C s3 (upd H2 Dl (.lst [])) fp) _ s10 _ H10 (.ref Dl) [v10] (.ref Dl) [yv] (fun _ H' => H' = upd H10 Dl (.lst (ys ++ [v10]))) I10 rfl (.cons r10 .nil) ⟨Dl, ys, v10, rfl, rfl, hD10, hl10, rfl⟩) (fun _ s11 ⟨_, H11, I11, _, hH11⟩ => ?_) fun _ _ z => z.elim
       subst hH11
       have e210 := (e57.trans e9).trans e10
       have e11 : Ext H2 G2 (upd H10 Dl (.lst (ys ++ [v10]))) G10 := ⟨fun b o q => by rw [upd_ne (ne_of_none q hDn)]; exact e210.hh b o q, e210.gg, fun b o q => by rw [upd_ne (ne_of_none q gD10)]; exact e210.gh b o q, e210.new⟩
       refine done I11 e11 gD10 upd_same ((hL5.same (e7.gg.trans (e9.gg.trans e10.gg))).append (IsL.one i10)) ?_ rest9 qr ?_
       ·rw [List.length_append]; simp only [List.length_singleton]; omega
       ·rw [ha5]; simp
  ·have hkl : k = ds.length := by omega
   subst hkl
   refine wpAny_mono (T.done (compCx2 X scope x y0 fr C s3 (upd H2 Dl (.lst [])) fp) rfl rfl rfl hcalm _ [] s5 _ H5 (fun _ _ => False) I5 (f5 fr5 nopins) st5 j2) (fun r s6 ⟨hr, I6⟩ => ?_) fun _ _ z => z.elim
   subst hr
   rw [List.drop_length] at hr5
   cases hr5
   rw [List.append_nil] at ha5
   subst ha5
   obtain ⟨m6, hn6, _⟩ := I6.loc
   refine ⟨m6, hn6, fun h7 sb7 => ?_⟩
   have k67 : ∀ b o, b ≠ C → s6.heap.get? b = some o → h7.get? b = some o := fun b o hb e => (sb7.2 b hb).trans e
   have lt3 : ∀ b o, s3.heap.get? b = some o → b ≠ C := fun b o e => by rw [← hCd]; exact Nat.ne_of_lt (Heap.lt_size e)
   have un : Un (frs X.stack) fp (upd H2 Dl (.lst [])) H5 s3.heap h7 := by
    have u := I6.base
    refine ⟨fun b o e n hb hx => k67 b o (lt3 b o e) (u.keep b o e n hb hx), fun b o e n hb hx => ?_, u.free, fun b o e hx => ?_, u.tups, u.frzs, u.tbls⟩
    ·obtain ⟨sl, q⟩ := u.slot b o e n hb hx
     exact ⟨sl, k67 b _ (lt3 b o e) q⟩
    ·obtain ⟨o', q⟩ := u.there b o e hx
     exact ⟨o', k67 b o' (lt3 b o e) q⟩
   have hCn : H5 C = none := I6.free
   have hok : HOk X.prog X.w H5 h7 := fun b ob e => by
    refine (I6.hok b ob e).stay (fun d o hd q => k67 d o ?_ q) (fun _ q => q) fun _ _ q => q
    rintro rfl
    rcases hd with z | z
    ·rw [← z, hCn] at e; cases e
    ·rw [hCn] at z; cases z
   have I7 : Inv X pins σ H5 { s6 with heap := h7 } := I3.call' (s' := { s6 with heap := h7 }) I6.os un hok I6.bare fun b hb => by
    obtain ⟨q0, q1, q2, q3, q4, q5⟩ := f3 b hb
    exact ⟨q3, q1, q4, q5⟩
   have gh5 := e5.gh
   refine ⟨.ref Dl, H5, I7, rfl, hq _ H5 (upd G5 Dl (.lst ys)) ?_ ⟨Dl, ys, rfl, .of upd_same, ?_, hL5.same (same_upd gD5 _)⟩⟩
   ·have e05 := e2.trans e5
    refine ⟨e05.hh, e05.gg.trans (same_upd gD5 _), fun b o q => ?_, fun b o q => ?_⟩
    ·by_cases hb : b = Dl
     ·subst hb; rw [upd_same] at q; cases q; exact hD5
     ·rw [upd_ne hb] at q; exact gh5 b o q
    ·by_cases hb : b = Dl
     ·subst hb; exact .inr (e2.hh.free hDn)
     ·rw [upd_ne hb] at q; exact e05.new b o q
   ·have := hL5.length
    have h1 : (1000000 : Nat) < sizeLine := by decide
    omega
 exact codeAny_compStart_list loop (T.self X.A 0 s4 _ _ st4 loop)
noncomputable def compF2 (fr : List (Str × Nat)) (f : FA) (fe : FE) (gt : FT) : FE := fun δ => f δ >>= fun ds => bigR ds (compL (onPair fun a b => fe (innerD2 δ fr (some (.v a)) (some (.v b)))) (onPair fun a b => gt (innerD2 δ fr (some (.v a)) (some (.v b)))) ds)
theorem q_comp2 {X : Cx} {B G₀ : Hp} {elt iter : Expr} {x y0 : Str} {px py pt : Pos} {x1} {ifs : List Expr} {scope sc : Scope} {N : List Str} {pos : Pos} {f : FA} {fe : FE} {gc : FT} (fr : List (Str × Nat)) (hok : compOk2 sc scope N x y0 fr = true) (hsc : X.env.scope = sc) (hN : X.N = N) (hcalm : X.calm = true)
  (hi : PI X (.Tuple [.Name x px, .Name y0 py] x1 pt) iter (tI X B G₀ f)) (ht : Tst2 X scope x y0 fr ifs gc) (he : ∀ C s₀ H₀ fp B' G', PE (compCx2 X scope x y0 fr C s₀ H₀ fp) elt (tE (compCx2 X scope x y0 fr C s₀ H₀ fp) B' G' fe))
  (hs : ∀ x, foldedSetIterable iter X.env x = pure x := by intro _; rfl) :
  PE X (.ListComp elt [⟨.Tuple [.Name x px, .Name y0 py] x1 pt, iter, ifs, 0⟩] scope pos) (tE X B G₀ (compF2 fr f fe gc)) := pd_comp2 fr hok hsc hN hcalm hi ht he hs
end M

set_option Elab.async false
set_option linter.all false
set_option maxRecDepth 100000
set_option maxHeartbeats 4000000
namespace M
open PySem PySem.Spec PyProof.Rows L2
set_option autoImplicit false

noncomputable def ixO (i : Nat) (fi : FE) : FE := fun δ => getO δ i >>= fun ds => fi δ >>= fun k => idxR (.lst ds) k
section
variable {X : Cx} {B G₀ : Hp} {σ : St} {H G : Hp} {δ : DS} {e a b : Expr} {fe fa fb : FE} {x : Str} {pos pos' p : Pos}
theorem q_ixO (i : Nat) (he : PE X e (tE X B G₀ fe)) (hN : X.N[i]? = some x := by rfl) (hv : Vis X.env.scope x := by first | exact Or.inl rfl | exact Or.inr (Or.inl rfl) | exact Or.inr (Or.inr rfl)) (hdb : (x == ("__debug__" : Str)) = false := by decide) (hcd : (x == ("__classdict__" : Str)) = false := by decide)
  (hs : PlainIx e := by intro _ _; rfl) : PE X (.Subscript (.Name x p) e pos) (tE X B G₀ (ixO i fe)) := by
 refine pd_of (pe_ix ix_list (pe_var hN hv hdb hcd) he hs) fun σ H G δ Q R hw => ?_
 unfold W ixO at hw
 cases q : getO δ i with
 | exc c => exact (getO_ne q).elim
 | bad => rw [q] at hw; exact hw.elim
 | ok ds =>
  rw [q] at hw
  have hi := getO_ok q
  obtain ⟨a, xs, hσ, hH, hG, hB, hz, hI⟩ := R.own i ds hi
  refine ⟨.ref a, hσ, G, δ, R, ?_⟩
  have hw : (fe δ >>= fun k => idxR (.lst ds) k).wp _ _ := hw
  rw [wp_bind] at hw
  refine Rs.wp.mono hw (fun _ x => x) fun kd hk kv H1 G1 e1 i1 => ?_
  cases kd with
  | int k =>
   cases (show kv = .int k from i1)
   cases q2 : atI ds k with
   | none =>
    have : idxR (.lst ds) (.int k) = .bad := by show (match atI ds k with | some d => Rs.ok d | none => .bad) = _; rw [q2]
    rw [this] at hk; exact hk.elim
   | some d =>
    have e2 : idxR (.lst ds) (.int k) = .ok d := by show (match atI ds k with | some d => Rs.ok d | none => .bad) = _; rw [q2]
    rw [e2] at hk
    obtain ⟨v, hv, iv⟩ := (hI.same e1.gg).atI q2
    exact ⟨a, xs, k, v, rfl, rfl, SqL.of (e1.hh _ _ hH), hv, hk v H1 G1 e1 iv⟩
  | _ => exact hk.elim
noncomputable def catR : D → D → Rs D
 | .lst a, .lst b => if a.length + b.length ≤ 1000000 then .ok (.lst (a ++ b)) else .bad
 | _, _ => .bad
theorem od_cat : OpD X (binaryOp .Add) catR := by
 intro pins s σ H G Q d1 d2 x y v u I gh rx ry i1 i2 hw
 unfold catR at hw
 split at hw
 ·rename_i da db
  obtain ⟨hz, hw⟩ := wIf (r := .ok (.lst (da ++ db))) (c := da.length + db.length ≤ 1000000) hw
  obtain ⟨l, xs, rfl, h1, _, h3⟩ := i1
  obtain ⟨b, zs, rfl, g1, _, g3⟩ := i2
  cases rx
  cases ry
  obtain ⟨its, r, ⟨o, n, e, c, dd, dt⟩, z⟩ := I.list (gh.seq h1)
  obtain ⟨its2, r2, ⟨o2, n2, e2, c2, dd2, dt2⟩, z2⟩ := I.list (gh.seq g1)
  obtain ⟨cls, dict, data, sl⟩ := o
  obtain ⟨cls2, dict2, data2, sl2⟩ := o2
  dsimp only at c dd dt c2 dd2 dt2
  subst c dd dt c2 dd2 dt2
  have l1 := h3.length
  have l2 := g3.length
  have l3 := r.length
  have l4 := r2.length
  have hm := million
  refine concat_meets ⟨_, e, rfl⟩ ⟨_, e2, rfl⟩ noFill_list_add seq_list_add PySem.F.slot_list_add PySem.F.entry_list_add (PySem.F.args_list_add_2 _ _) (list_addW l b its.toArray its2.toArray n n2 none none sl sl2 (by rw [List.size_toArray, List.size_toArray]; omega)) ⟨e, e2, ?_⟩
  have ea : its.toArray ++ its2.toArray = (its ++ its2).toArray := by simp
  rw [ea]
  have hn := I.fresh
  exact ⟨.ref _, _, I.lnew (t' := s.toks) (r.append r2) (by rw [List.length_append]; omega), rfl, hw _ _ (upd G s.heap.objs.size (.lst (xs ++ zs))) (Ext.laid gh hn) ⟨_, _, rfl, .of upd_same, by rw [List.length_append]; omega, (h3.append g3).same (same_upd (gh.free hn) _)⟩⟩
 ·exact hw.elim
end
@[simp] theorem s_ixO (i : Nat) (fi : FE) (δ : DS) : ixO i fi δ = (getO δ i >>= fun ds => fi δ >>= fun k => idxR (.lst ds) k) := nodef rfl
end M

set_option Elab.async false
set_option linter.all false
set_option maxRecDepth 100000
set_option maxHeartbeats 4000000
namespace M
open PySem PySem.Spec PyProof.Rows L2
set_option autoImplicit false

@[simp] theorem s_shareC (x : Option Sl) (δ : DS) : share (x :: δ) = shareS x :: share δ := nodef rfl
@[simp] theorem s_shS0 : shareS none = none := nodef rfl
@[simp] theorem s_shSv (d : D) : shareS (some (.v d)) = some (.v d) := nodef rfl
@[simp] theorem s_shSo (ds : List D) : shareS (some (.own ds)) = some (.v (.lst ds)) := nodef rfl
section
variable {X : Cx} {B G₀ : Hp} {o e : Expr} {es : List Expr} {fo : FE} {fr : FA} {apos pos : Pos} {name : Str} {id : String} {g : Str → List D → Rs D}
end
end M

set_option Elab.async false
set_option linter.all false
set_option maxRecDepth 100000
set_option maxHeartbeats 4000000
namespace M
open PySem PySem.Spec PyProof.Rows L2
set_option autoImplicit false

end M

set_option Elab.async false
set_option linter.all false
set_option maxRecDepth 100000
set_option maxHeartbeats 4000000
namespace M
open PySem PySem.Spec PyProof.Rows L2
set_option autoImplicit false

structure ExtM (a : Addr) (H G H' G' : Hp) : Prop where
 hh : ∀ b o, b ≠ a → H b = some o → H' b = some o
 gg : Same G G'
 gh : Same G' H'
 new : ∀ b o, G' b = some o → G b = some o ∨ H b = none
inductive SpM (K : PySem.W.Frag) (g : List D → List D → Rs (List D)) (n : Nat) (vs : List V) (H : Hp) (Q : VK) : Prop
 | mk (a : Addr) (vs' : List V) (G : Hp) (xs : List V) (ds0 ds : List D) (e : vs = .ref a :: vs') (h1 : H a = some (.lst xs)) (h2 : G a = none) (h3 : xs.length ≤ sizeLine) (h4 : IsL K G ds0 xs) (h5 : Same G H) (h6 : IsL K G ds vs') (h7 : ds.length = n)
  (h8 : (g ds0 ds).wp (fun _ => False) fun ys => ∀ zs H' G', ExtM a H G H' G' → zs.length ≤ sizeLine → IsL K G' ys zs → H' a = some (.lst zs) → Q .non H')
noncomputable def spM (K : PySem.W.Frag) (g : List D → List D → Rs (List D)) (n : Nat) : Sp := fun vs H Q _ => SpM K g n vs H Q
structure FnMut (P : Program) (w : World) (K : PySem.W.Frag) (mg : Str → Option Value) (base : Heap) (x : Str) (k n : Nat) (g : List D → List D → Rs (List D)) : Prop where
 ex : ∃ (f : Addr) (fd : FuncData) (ps : List Str), FnOk P w K mg base CX0 k f fd ps (spM K g n) ∧ Binds K fd ps [] ∧ mg x = some (.ref f) ∧ PySem.W.keepIn K (.ref f) = true
 len : ∀ ds0 ds, ds.length ≠ n → g ds0 ds = .bad
 ne : ∀ ds0 ds c, g ds0 ds ≠ .exc c

section
variable {X : Cx} {B G₀ : Hp} {σ₀ : St} {c e : Expr} {es : List Expr} {gc : FT} {fr : FA} {fe : FE} {sts sts' rest : List Stmt} {st : Stmt} {F F1 F2 : FS} {pos pos' p apos : Pos} {x : Str}
end
section
variable {P : Program} {w : World} {K : PySem.W.Frag} {mg : Str → Option Value} {base : Heap}
end
section
variable {X : Cx} {B G₀ : Hp} {x y : Str} {k n : Nat} {g : List D → List D → Rs (List D)} {e : Expr} {es : List Expr} {fr : FA} {p p2 pos pos' : Pos}
end
end M

set_option Elab.async false
set_option linter.all false
set_option maxRecDepth 100000
set_option maxHeartbeats 4000000
namespace M
open PySem PySem.Spec PyProof.Rows L2
set_option autoImplicit false

end M

set_option Elab.async false
set_option linter.all false
set_option maxRecDepth 100000
set_option maxHeartbeats 4000000
namespace M
open PySem PySem.Spec PyProof.Rows L2
set_option autoImplicit false

structure Grp (K : PySem.W.Frag) (B : Hp) (a : Addr) (bs : List Addr) (dss : List (List D)) (H G : Hp) : Prop where
 ha : H a = some (.lst (bs.map V.ref))
 ga : G a = none
 ba : B a = none
 len : bs.length = dss.length
 el : ∀ (j : Nat) (b : Addr) (ds : List D), bs[j]? = some b → dss[j]? = some ds → ∃ xs, H b = some (.lst xs) ∧ xs.length ≤ sizeLine ∧ IsL K G ds xs ∧ G b = none ∧ B b = none
 nd : (a :: bs).Nodup
noncomputable def noOwn (δ : DS) : Bool := δ.all fun s => match s with
 | some (.ow _ _) => false
 | _ => true
noncomputable def appLast (dss : List (List D)) (e : D) : Option (List (List D)) := match dss.getLast? with
 | some l => if l.length < 1000000 then some (dss.dropLast ++ [l ++ [e]]) else none
 | none => none
noncomputable def grpO (k : Nat) (gt : FT) (fe : FE) : List D → DS → List (List D) → Rs (DS × List (List D))
 | [], δ, dss => .ok (δ, dss)
 | d :: ds, δ, dss => match gt (δ.set k (some (.v d))) with
  | .ok true => match fe (δ.set k (some (.v d))) with
   | .ok e => match appLast dss e with
    | some dss' => grpO k gt fe ds (δ.set k (some (.v d))) dss'
    | none => .bad
   | _ => .bad
  | .ok false => match fe (δ.set k (some (.v d))) with
   | .ok e => if dss.length < 1000000 then grpO k gt fe ds (δ.set k (some (.v d))) (dss ++ [[e]]) else .bad
   | _ => .bad
  | _ => .bad
section
variable {X : Cx} {B G₀ : Hp} {σ : St} {H G : Hp} {δ : DS}
end
section
variable {X : Cx} {B G₀ : Hp}
inductive GrpI (X : Cx) (B G1 : Hp) (δe : DS) (dsse : List (List D)) (a : Addr) (g k : Nat) (gt : FT) (fe : FE) (ds : List D) (i : Nat) (σ : St) (H : Hp) : Prop
 | mk (G : Hp) (δ : DS) (bs : List Addr) (dss : List (List D)) (h1 : Rel X B G1 σ H G δ) (h2 : noOwn δ = true) (h3 : δ.length = δe.length) (h4 : σ[g]? = some (some (.ref a))) (h5 : Grp X.K B a bs dss H G) (h6 : bs.length ≤ sizeLine) (h7 : grpO k gt fe (ds.drop i) δ dss = .ok (δe, dsse))
end
end M

set_option Elab.async false
set_option linter.all false
set_option maxRecDepth 100000
set_option maxHeartbeats 4000000
namespace M
open PySem PySem.Spec PyProof.Rows L2
set_option autoImplicit false

section
variable {X : Cx} {B G₀ : Hp} {σ : St} {H G : Hp} {δ : DS} {D' : Ends} {e : Expr} {lo hi : Option Expr} {fe : FE} {fl fh : FP} {x : Str} {pos pos' p2 p3 : Pos}
end
end M

set_option Elab.async false
set_option linter.all false
set_option maxRecDepth 100000
set_option maxHeartbeats 4000000
namespace M
open PySem PySem.Spec PyProof.Rows L2
set_option autoImplicit false

end M

set_option Elab.async false
set_option linter.all false
set_option maxRecDepth 100000
set_option maxHeartbeats 4000000
namespace M
open PySem PySem.Spec PyProof.Rows L2
set_option autoImplicit false

noncomputable def keyD : D → Option Key
 | .int i => some (.inl i)
 | .str x => some (.inr x)
 | _ => none
theorem is_key {K : PySem.W.Frag} {G : Hp} {d : D} {v : V} {k : Key} (h : keyD d = some k) (i : Is K G d v) : v = kV k := by
 cases d with
 | int n => cases h; exact i
 | str x => cases h; exact i.1
 | _ => cases h
noncomputable def valD {κ : Type} [DecidableEq κ] : List κ → List D → κ → Option D
 | k :: ks, d :: ds, j => if k = j then some d else valD ks ds j
 | _, _, _ => none
theorem valV_zip {κ : Type} [DecidableEq κ] {K : PySem.W.Frag} {G : Hp} : ∀ {ks : List κ} {ds : List D} {xs : List V} {j : κ}, ks.length = xs.length → IsL K G ds xs →
  (valD ks ds j = none → valV (ks.zip xs) j = none) ∧ ∀ d, valD ks ds j = some d → ∃ v, valV (ks.zip xs) j = some v ∧ Is K G d v
 | [], ds, xs, j, h, i => by
  refine ⟨fun _ => rfl, fun d e => ?_⟩
  cases ds <;> cases e
 | k :: ks, ds, [], j, h, i => by simp at h
 | k :: ks, [], x :: xs, j, h, i => by
  have i : x :: xs = [] := i
  cases i
 | k :: ks, d :: ds, x :: xs, j, h, i => by
  obtain ⟨x', r, e, h1, h2⟩ := (show ∃ x' r, x :: xs = x' :: r ∧ Is K G d x' ∧ IsL K G ds r from i)
  cases e
  have ih := valV_zip (j := j) (by simpa using h) h2
  unfold valD
  by_cases e : k = j
  ·rw [if_pos e]
   refine ⟨fun z => (by cases z), fun d' z => ?_⟩
   cases z
   exact ⟨x, by show valV ((k, x) :: ks.zip xs) j = _; exact valV_pos e, h1⟩
  ·rw [if_neg e]
   have e2 : valV ((k :: ks).zip (x :: xs)) j = valV (ks.zip xs) j := by show valV ((k, x) :: ks.zip xs) j = _; exact valV_neg e
   rw [e2]; exact ih
section
variable {X : Cx} {B G₀ : Hp} {a b e : Expr} {es : List Expr} {fa fb fe : FE} {fr : FA} {pos pos' p p2 apos : Pos} {x : Str}
noncomputable def newDS (i : Nat) : FS := fun δ => .nx (δ.set i (some (.ow (.d []) [])))
theorem q_newD (i : Nat) (hN : X.N.Nodup) (hi : X.N[i]? = some x := by rfl) (hx : Loc X.env.scope x := by first | exact Or.inl rfl | exact Or.inr rfl) (hs : swapsWith (.Dict [] [] p2) (some (.Name x pos')) pos.line X.env = pure false := by rfl)
  (hf : X.fn x = true ∨ X.env.scope.names.lookup x = some .local := by first | exact .inl rfl | exact .inr rfl | assumption) :
  PS X (.Assign [.Name x pos'] (.Dict [] [] p2) pos) (tS X B G₀ (newDS i)) := by
 refine ps_imp (ps_set hN hi hx pe_dnewK hs hf) fun D' σ H ⟨G, δ, R, hw⟩ => fun q hq => ?_
 exact hw _ _ G (R.setOwnK (kd := .d []) (ds := []) (xs := []) i hq (same_upd hq _) upd_same (R.ext.gh.trans (same_upd hq _)) rfl rfl)
noncomputable def getK (δ : DS) (i : Nat) : Rs (List Key × List D) := match δ[i]? with
 | some (some (.ow (.d ks) ds)) => .ok (ks, ds)
 | _ => .bad
theorem getK_ok {δ : DS} {i : Nat} {z : List Key × List D} (h : getK δ i = .ok z) : δ[i]? = some (some (.ow (.d z.1) z.2)) := by
 unfold getK at h
 split at h
 ·rename_i e; cases h; exact e
 ·cases h
theorem getK_ne {δ : DS} {i : Nat} {c : Str} : getK δ i ≠ .exc c := by
 unfold getK
 split <;> (intro h; cases h)
noncomputable def setdM (z : List Key × List D) : List D → Rs (List Key × List D)
 | [k, v] => match keyD k with
  | some k => if z.1.length < 1000000 ∧ z.1.length = z.2.length then (match valD z.1 z.2 k with
   | some _ => .ok z
   | none => .ok (z.1 ++ [k], z.2 ++ [v])) else .bad
  | none => .bad
 | _ => .bad
noncomputable def setdS (i : Nat) (fr : FA) : FS := fun δ => (getK δ i >>= fun z => fr δ >>= fun es => setdM z es).out δ fun z => .nx (δ.set i (some (.ow (.d z.1) z.2)))
noncomputable def rSetd : V → List V → Hp → VK → Prop := fun x xs H Q => ∃ a kvs k v, x = .ref a ∧ xs = [kV k, v] ∧ H a = some (.dK kvs) ∧ kvs.length < sizeLine ∧ (∀ w, valV kvs k = some w → Q w H) ∧ (valV kvs k = none → Q v (upd H a (.dK (putK kvs k v))))
theorem mt_setd : MtR X "dict.setdefault" rSetd := by
 intro pins s σ H x xs v us Q I rx rs h
 obtain ⟨a, kvs, k, y, rfl, rfl, hH, hz, q1, q2⟩ := h
 cases (show v = .ref a from rx)
 cases rs with
 | cons r1 rr =>
  cases rr with
  | cons r2 r0 =>
   cases r0
   obtain ⟨z, hd, vs, rel, dd⟩ := dk_of I.hok hH
   refine call_meetsIn PySem.F.slot_dict_setdefault dd.typeIs PySem.F.entry_dict_setdefault (PySem.F.args_dict_setdefault_3 _ _ _) (kt_meets_setdefault (mixKind X.prog X.w) a (kV_is r1) hd _) ⟨vs, dd, by rw [← rel.length]; exact z, fun w hw => ?_, fun hn h' dd' hs => ?_⟩
   ·have rv := rel.val k
    rw [hw] at rv
    cases e : valV kvs k with
    | none => rw [e] at rv; exact rv.elim
    | some w' => rw [e] at rv; exact ⟨w', H, I.tok _, rv, q1 w' e⟩
   ·have rv := rel.val k
    rw [hn] at rv
    cases e : valV kvs k with
    | some w' => rw [e] at rv; exact rv.elim
    | none =>
     have hl : (putK kvs k y).length ≤ sizeLine := by have := length_putK kvs k y; omega
     have he : ∃ q, h'.get? a = some q := let ⟨q, _, _, hq, _⟩ := dd'; ⟨q, hq⟩
     exact ⟨y, _, d_write I (by rw [hH]; exact True.intro) hs he (dk_new hl hd (rel.put k r2) dd'), r2, q2 e⟩
theorem q_setd (i : Nat) (ha : PA X (e :: es) (tAs X B G₀ fr))
  (hN : X.N[i]? = some x := by rfl) (hv : Vis X.env.scope x := by first | exact Or.inl rfl | exact Or.inr (Or.inl rfl) | exact Or.inr (Or.inr rfl)) (hdb : (x == ("__debug__" : Str)) = false := by decide) (hcd : (x == ("__classdict__" : Str)) = false := by decide)
  (hbase : attributeBase (.Name x p) "setdefault" X.env (eval (.Name x p) X.env) = eval (.Name x p) X.env := by rfl)
  (hfew : ((backTo pos (starEach (e :: es) X.env)).all (fun x => !x.1) && (backToKw pos (keywordEach [] X.env)).all (fun x => x.1.isSome)
   && decide ((e :: es).length + ([] : List Keyword).length + (if ([] : List Keyword).isEmpty then 0 else 1) < 30)) = true := by rfl)
  (hline : (apos.endLine == pos.line) = true := by rfl) (hs : starEach (e :: es) X.env = (false, eval e X.env) :: starEach es X.env := by rfl) (hplain : (backTo pos (starEach es X.env)).any (·.1) = false := by rfl)
  (hsw : swapsWith (.Call (.Attribute (.Name x p) "setdefault" apos) (e :: es) [] pos) none pos'.line X.env = pure false := by rfl) :
  PS X (.Expr (.Call (.Attribute (.Name x p) "setdefault" apos) (e :: es) [] pos) pos') (tS X B G₀ (setdS i fr)) := by
 refine ps_imp (ps_expr (pe_bm PySem.F.plainAttrs_dict PySem.F.slot_dict_setdefault PySem.F.type_dict_setdefault mt_setd (pe_var hN hv hdb hcd) ha hbase hfew hline hs hplain) hsw) fun D' σ H ⟨G, δ, R, hw⟩ => ?_
 unfold setdS at hw
 cases q : getK δ i with
 | exc c => exact (getK_ne q).elim
 | bad => rw [q] at hw; exact hw.elim
 | ok z =>
  rw [q] at hw
  have hi := getK_ok q
  obtain ⟨ks, ds⟩ := z
  dsimp only at hi
  obtain ⟨a, xs, hσ, hH, hG, hB, hz, hI⟩ := R.own i ds hi
  have hH : H a = some (.dK (ks.zip xs)) := hH
  have hz : ks.length = xs.length := hz
  refine ⟨.ref a, hσ, .inr (.inr (.inl ⟨rfl, .inl ⟨_, hH⟩⟩)), G, δ, R, ?_⟩
  have hw' : WS X B G₀ D' ((fr δ).out δ fun es => (setdM (ks, ds) es).out δ fun z => .nx (δ.set i (some (.ow (.d z.1) z.2)))) := by
   revert hw
   show WS X B G₀ D' ((fr δ >>= fun es => setdM (ks, ds) es).out δ _) → _
   cases fr δ with
   | ok es => exact fun z => z
   | exc c => exact fun z => z
   | bad => exact fun z => z
  refine out_WA R hw' fun es' _ hk vs H1 G1 e1 i1 => ?_
  have hG1 : G1 a = none := by
   cases z : G1 a with
   | none => rfl
   | some o =>
    rcases e1.new a o z with w | w
    ·rw [hG] at w; cases w
    ·rw [hH] at w; cases w
  have R1 := R.mono e1
  unfold setdM at hk
  split at hk
  ·rename_i k v
   split at hk
   ·rename_i k' hk'
    split at hk
    ·rename_i hb
     dsimp only at hb
     obtain ⟨x1, r1, rfl, h1, h2⟩ := i1
     obtain ⟨x2, r2, rfl, h3, h4⟩ := h2
     cases (show r2 = [] from h4)
     cases is_key hk' h1
     have hI1 := hI.same e1.gg
     obtain ⟨z1, z2⟩ := valV_zip (j := k') hz hI1
     have ml := million
     have hzl : (ks.zip xs).length < sizeLine := by rw [List.length_zip]; omega
     refine ⟨a, ks.zip xs, k', x2, rfl, rfl, e1.hh _ _ hH, hzl, fun w hw => ?_, fun hn => ?_⟩
     ·cases qd : valD ks ds k' with
      | none => rw [z1 qd] at hw; cases hw
      | some d =>
       dsimp only at hk
       rw [qd] at hk
       have hset : δ.set i (some (.ow (.d ks) ds)) = δ := by
        apply List.ext_getElem?
        intro j
        by_cases hj : i = j
        ·subst hj; rw [List.getElem?_set]; simp only [if_true]; rw [if_pos (List.getElem?_eq_some_iff.mp hi).1, hi]
        ·rw [List.getElem?_set_ne hj]
       have hk : WS X B G₀ D' (.nx (δ.set i (some (.ow (.d ks) ds)))) := hk
       rw [hset] at hk
       exact hk σ H1 G1 R1
     ·cases qd : valD ks ds k' with
      | some d => obtain ⟨w, ew, _⟩ := z2 d qd; rw [ew] at hn; cases hn
      | none =>
       dsimp only at hk
       rw [qd] at hk
       rw [putK_new x2 hn]
       have ez : ks.zip xs ++ [(k', x2)] = (ks ++ [k']).zip (xs ++ [x2]) := by rw [List.zip_append hz]; rfl
       rw [ez]
       refine hk σ _ G1 (R1.writeK (k1 := .d (ks ++ [k'])) hi hσ ?_ (hI1.append (IsL.one h3)))
       show (ks ++ [k']).length = (xs ++ [x2]).length
       simp [hz]
    ·exact hk.elim
   ·exact hk.elim
  ·exact hk.elim
end
end M

set_option Elab.async false
set_option linter.all false
set_option maxRecDepth 100000
set_option maxHeartbeats 4000000
namespace M
open PySem PySem.Spec PyProof.Rows L2
set_option autoImplicit false

section
variable {Mo : Model} {A : Around} {E : Value → Shared → Prop} {s : Shared} {Bk : Heap} {env : Env} {outer l : List Env} {L e C : Addr}
theorem Fl.frames {h : Heap} (x : Fl Bk l e C h) : h.FunFrames Bk l ∧ Bk.StaysIn h ∧ Bk.get? e = none := by
 rcases x with ⟨t, fl, f1, f2, f3, _⟩ | ⟨h₁, vs, k1, k2, k3⟩
 ·exact ⟨f3, f1, f2⟩
 ·refine ⟨k2.of_keeps fun b o hb _ => ⟨o, k3.keeps b o hb, rfl⟩, fun b o hb => k3.keeps b o (k1 b o hb), ?_⟩
  cases q : Bk.get? e with
  | none => rfl
  | some o => have := k1 e o q; rw [k3.new] at this; cases this
theorem fl_note {Q : Unit → Shared → Prop} (hfr : A.frames = some (env :: outer)) (hf : env.frame = some L) (x : Fl Bk (env :: outer) e C s.heap)
  (hQ : ∀ h' t, Heap.HeldW Bk (env :: outer) e (.ref C) (.ref t) L h' → s.heap.UpToSlots h' → Q () { s with heap := h' }) : wpAny Mo A (noteFrame (.ref e) env) Q E s := by
 have fx := x.frames
 rcases x with ⟨t, fl, f1, f2, f3, f4⟩ | ⟨h₁, vs, k1, k2, k3⟩
 ·by_cases hq : fl = rawInt L
  ·subst hq
   exact wpAny_noteFrame_againW hf f4 (hQ s.heap t ⟨f1, f2, f3, f4⟩ (Heap.UpToSlots.refl _))
  ·obtain ⟨oe, us, Tr, oTr, rs, x1, ⟨x2, x3⟩, x4, x5, x6, x7, x8, x9, x10⟩ := f4
   have oth : ∀ b, b ≠ Tr → (s.heap.update Tr (Obj.mapFields (·.setIfInBounds 3 Value.none))).get? b = s.heap.get? b := fun b z => Heap.get?_update_other _ _ (Ne.symm z)
   have nrc : ∀ b o, s.heap.get? b = some o → (∀ ws, o.data ≠ .fields ws) → b ≠ Tr := fun b o z nf q => by subst q; rw [x8] at z; cases z; exact nf rs x9
   unfold noteFrame; simp only [hf]
   refine wpAny_bind (wpAny_field x1 x4 x5 ?_); rw [if_pos (show (Value.ref Tr != Value.none) = true from by simp)]
   refine wpAny_bind (wpAny_field x8 x9 x10 ?_)
   rw [if_neg (fun z => hq (beq_iff_eq.mp z))]
   refine wpAny_bind (wpAny_setField x8 x9 (Array.getElem?_eq_some_iff.mp x10).1 ?_)
   refine wpAny_entryW hfr (f3.of_keeps fun b o z nf => ⟨o, (oth b (nrc b o z nf)).trans z, rfl⟩) hf ((oth e (Ne.symm x7)).trans x1) (fun b o z => (oth b fun q => by subst q; rw [x6] at z; cases z).trans (f1 b o z)) f2 x4
    (Array.getElem?_eq_some_iff.mp x5).1 x3 fun h' ⟨n1, n2, n3, n4⟩ => hQ h' t ⟨n1, f2, n2, by rw [← x2]; exact n3⟩ fun b o z nf => n4 b o ((oth b (nrc b o z nf)).trans z) nf
 ·obtain ⟨t, he, htn, ht⟩ := k3.there
  unfold noteFrame
  simp only [hf]
  refine wpAny_bind (wpAny_field he rfl (x := .none) rfl ?_)
  rw [if_neg (by decide)]
  refine wpAny_entryW (a0 := .ref t) hfr fx.1 hf he fx.2.1 fx.2.2 rfl (by simp) rfl fun h' hN => ?_
  obtain ⟨n1, n2, n3, n4⟩ := hN
  exact hQ h' t ⟨n1, fx.2.2, n2, n3⟩ n4
theorem fl_leave {Q : Unit → Shared → Prop} (hfr : A.frames = some (env :: outer)) (hf : env.frame = some L) (x : Fl Bk (env :: outer) e C s.heap)
  (hQ : ∀ h' t, Heap.FlyingW Bk outer e (.ref C) (.ref t) h' → s.heap.UpToSlots h' → Q () { s with heap := h' }) : wpAny Mo A (leaving env (.ref e)) Q E s := by
 unfold leaving
 refine wpAny_bind (fl_note hfr hf x fun h1 t hh u1 => ?_)
 refine wpAny_landsW hh fun h' hfl u2 => ?_
 obtain ⟨k1, k2, ⟨_, _, k3⟩, k4⟩ := hfl
 exact hQ h' t ⟨k1, k2, k3, k4⟩ (u1.trans u2)
theorem setFlight_any {t : Addr} {fl : Value} {fo : Option Addr} {Q : Unit → Shared → Prop} (w1 : Bk.StaysIn s.heap) (w2 : Bk.get? e = none) (w3 : s.heap.FunFrames Bk l) (x : s.heap.TracedAtW Bk e (.ref C) (.ref t) fl)
  (hQ : ∀ h', Bk.StaysIn h' → h'.FunFrames Bk l → h'.TracedAtW Bk e (.ref C) (.ref t) (fo.elim Value.none fun f => rawInt f) → s.heap.UpToSlots h' → Q () { s with heap := h' }) :
  wpAny Mo A (do
   if (← field (.ref e) 1) == .none then unsupported "frame.own-activation:exception-without-traceback"
   setFlight (.ref e) fo) Q E s := by
 obtain ⟨oe, vs, T, oT, ts, he, hcls, hd, h1, hnT, hTe, hT, hdT, h3⟩ := x
 have hsz3 : 3 < ts.size := (Array.getElem?_eq_some_iff.mp h3).1
 have other : ∀ b, b ≠ T → (s.heap.update T (Obj.mapFields (·.setIfInBounds 3 (fo.elim Value.none fun f => rawInt f)))).get? b = s.heap.get? b :=
  fun b hb => Heap.get?_update_other _ _ (Ne.symm hb)
 have noRec : ∀ b o, s.heap.get? b = some o → (∀ vs, o.data ≠ .fields vs) → b ≠ T := fun b o z nf q => by subst q; rw [hT] at z; cases z; exact nf ts hdT
 refine wpAny_bind (wpAny_field he hd h1 ?_)
 rw [if_neg (show ¬ ((Value.ref T == Value.none) = true) from by simp)]
 unfold setFlight
 refine wpAny_bind (wpAny_field he hd h1 ?_); rw [if_pos (show (Value.ref T != Value.none) = true from by simp)]
 refine wpAny_setField hT hdT hsz3 (hQ _ (fun b o z => (other b fun q => by subst q; rw [hnT] at z; cases z).trans (w1 b o z)) (w3.of_keeps fun b o z nf => ⟨o, (other b (noRec b o z nf)).trans z, rfl⟩) ?_ fun b o z nf => ⟨o.slots, (other b (noRec b o z nf)).trans z⟩)
 exact ⟨oe, vs, T, _, _, (other e (Ne.symm hTe)).trans he, hcls, hd, h1, hnT, hTe, Heap.get?_update_self _ hT (Obj.isFreed_of_fields (Obj.data_mapFields hdT _)), Obj.data_mapFields hdT _, by simp [hsz3]⟩
end

theorem UnB.un {P : Program} {w : World} {fs : List Addr} {H H' : Hp} {h Bk h' : Heap} (u : UnB fs H H' h Bk h') (st : Bk.StaysIn h') (hok : HOk P w H' Bk) (ht : ∀ a o, H a = some o → ∃ ob, h'.get? a = some ob) : Un fs [] H H' h h' where
 keep := fun b o q n hb _ => st b o (u.keep b o q n hb)
 slot := fun b o q n hb _ => u.slot b o q n hb
 free := fun b o q n _ => u.free b o q n
 there := fun b o q _ => by
  cases e : H b with
  | some z => exact ht b z e
  | none =>
   by_cases hb : b ∈ fs
   ·obtain ⟨sl, z⟩ := u.slot b o q e hb; exact ⟨_, z⟩
   ·exact ⟨o, st b o (u.keep b o q e hb)⟩
 tups := fun b xs q => u.same b _ q
 frzs := fun b o x q => u.same b _ q
 tbls := fun b ps q => ⟨#[], by rw [u.same b _ q]; simp⟩
theorem objOk_there {P : Program} {w : World} {H : Hp} {h : Heap} {a : Addr} {o : HO} (x : ObjOk P w H h a o) : ∃ ob, h.get? a = some ob := by
 induction o generalizing a with
 | lst xs => obtain ⟨_, its, n, _, e⟩ := x; exact ⟨_, e⟩
 | tup xs => obtain ⟨_, its, _, o, e, _⟩ := x; exact ⟨_, e⟩
 | dK kvs => obtain ⟨_, _, vs, _, o, es, ep, e, _⟩ := x; exact ⟨_, e⟩
 | dT kvs => obtain ⟨_, _, xs, _, o, es, ep, e, _⟩ := x; exact ⟨_, e⟩
 | set S n =>
  have x : h.SetOf (intKind P w) a S n := x
  obtain ⟨o, es, ep, t, e, _⟩ := x
  exact ⟨o, e⟩
 | ins C dx fs => obtain ⟨_, _, _, e, _⟩ := x; exact ⟨_, e⟩
 | own x' => exact x
 | xd fs => obtain ⟨mA, ⟨o, es, ep, e, _⟩, _⟩ := x; exact ⟨o, e⟩
 | met f x' => exact ⟨_, x⟩
 | rng lo hi => obtain ⟨t, u, v, e⟩ := x; exact ⟨_, e⟩
 | frz ob u ih => exact ⟨_, x.1⟩
 | tbl ps => exact ⟨_, x⟩
 | ext φ => exact x.2.1
theorem HOk.there' {P : Program} {w : World} {H : Hp} {h : Heap} {a : Addr} {o : HO} (x : HOk P w H h) (e : H a = some o) : ∃ ob, h.get? a = some ob := objOk_there (x a o e)
theorem UnB.slots {fs : List Addr} {l : List Env} {H H' : Hp} {h Bk h1 h2 : Heap} (u : UnB fs H H' h Bk h1) (hl : h1.FunFrames Bk l) (hs : ∀ b ∈ fs, b ∈ frs l) (up : h1.UpToSlots h2) : UnB fs H H' h Bk h2 :=
 ⟨u.keep, fun b o q n hb => by
  obtain ⟨sl, e⟩ := u.slot b o q n hb
  obtain ⟨_, ob, e2, nf⟩ := hl.mem (hs b hb)
  rw [e] at e2; cases e2
  obtain ⟨sl2, e3⟩ := up b _ e nf
  exact ⟨sl2, e3⟩, u.free, u.same⟩
noncomputable def CX1 (P : Program) (w : World) : CXT := fun outer H s E ev s' => ∃ (e C : Addr) (Bk : Heap) (H' : Hp), ev = .ref e ∧ E (.ref C) none H' ∧ (∃ t, Heap.FlyingW Bk outer e (.ref C) (.ref t) s'.heap) ∧ s'.os = s.os ∧ AllBare s'.gens ∧ HOk P w H' Bk ∧
 (∀ b o, H' b = some o → b ∉ frs outer) ∧ UnB (frs outer) H H' s.heap Bk s'.heap
noncomputable def XE1 (X : Cx) (E₀ : XK) (ev : Value) (s' : Shared) : Prop := ∃ (e C : Addr) (Bk : Heap) (H' : Hp), ev = .ref e ∧ E₀ (.ref C) none H' ∧ Fl Bk X.stack e C s'.heap ∧ s'.os = X.s₀.os ∧ AllBare s'.gens ∧ HOk X.prog X.w H' Bk ∧
 (∀ b o, H' b = some o → b ∉ frs X.stack) ∧ UnB X.fs X.H₀ H' X.s₀.heap Bk s'.heap
theorem fs_sub {X : Cx} (hst : X.stack = X.env :: X.outer) : ∀ b ∈ X.fs, b ∈ frs X.stack := fun b hb => by
 rw [hst]
 obtain ⟨env, he, hf⟩ := List.mem_filterMap.mp hb
 exact List.mem_filterMap.mpr ⟨env, List.mem_cons_of_mem _ he, hf⟩
theorem passes1 {X : Cx} {E₀ : XK} (hst : X.stack = X.env :: X.outer) (hf : X.env.frame = some X.env.locals) (hfr : X.A.frames = some X.stack) : PassesOwn (model X.prog X.w) X.A X.env (XE1 X E₀) := by
 rintro ev s' ⟨e, C, Bk, H', rfl, h1, h2, h3, h4, h5, h6, h7⟩
 show wpAny (model X.prog X.w) X.A (noteFrame (.ref e) X.env) _ _ s'
 have hsub := fs_sub hst
 rw [hst] at hfr h2
 have hF := h2.frames.1
 refine fl_note hfr hf h2 fun h' t hh up => ?_
 show wpAny (model X.prog X.w) X.A (do
   if (← field (.ref e) 1) == .none then unsupported "frame.own-activation:exception-without-traceback"
   setFlight (.ref e) X.env.frame) _ _ _
 rw [hf]
 have u1 : UnB X.fs X.H₀ H' X.s₀.heap Bk h' := h7.slots hF (by rw [← hst]; exact hsub) up
 refine setFlight_any (s := { s' with heap := h' }) hh.1 hh.2.1 hh.2.2.1 hh.2.2.2 fun h'' w1 w3 w4 up' => ?_
 have u2 : UnB X.fs X.H₀ H' X.s₀.heap Bk h'' := u1.slots hh.2.2.1 (by rw [← hst]; exact hsub) up'
 exact ⟨e, C, Bk, H', rfl, h1, by rw [hst]; exact .inl ⟨t, _, w1, hh.2.1, w3, w4⟩, h3, h4, h5, h6, u2⟩
theorem leaves1 {P : Program} {w : World} {K : PySem.W.Frag} {mg : Str → Option Value} {base : Heap} {N : List Str} {qual : Str} {scope : Scope} {f : Addr} {cd : Value} {A : Around} {outer : List Env} {s : Shared} {H : Hp} {E : XK} {ev : Value} {s' : Shared}
  (hfr : (A.deeper (envOfC qual scope s.heap.objs.size f cd)).frames = some (envOfC qual scope s.heap.objs.size f cd :: outer)) (x : XE1 (cxOf (CX1 P w) P w K mg base N qual scope f cd A outer s H E) E ev s') : (cxOf (CX1 P w) P w K mg base N qual scope f cd A outer s H E).xe ev s' := by
 obtain ⟨e, C, Bk, H', rfl, h1, h2, h3, h4, h5, h6, h7⟩ := x
 have h2' : Fl Bk (envOfC qual scope s.heap.objs.size f cd :: outer) e C s'.heap := h2
 have hF := h2'.frames.1
 show wpAny (model P w) (A.deeper (envOfC qual scope s.heap.objs.size f cd)) (leaving (envOfC qual scope s.heap.objs.size f cd) (.ref e)) _ _ s'
 refine fl_leave (L := s.heap.objs.size) hfr rfl h2' fun h' t hfl up => ?_
 have hs : ∀ b ∈ frs outer, b ∈ frs (envOfC qual scope s.heap.objs.size f cd :: outer) := fun b hb => by
  obtain ⟨env, he, hf⟩ := List.mem_filterMap.mp hb
  exact List.mem_filterMap.mpr ⟨env, List.mem_cons_of_mem _ he, hf⟩
 exact ⟨e, C, Bk, H', rfl, h1, ⟨t, hfl⟩, h3, h4, h5, fun b o q hb => h6 b o q (hs b hb), h7.slots hF hs up⟩
theorem isX_XE1 {X : Cx} {E₀ : XK} {c : Str} {pins : List (Addr × Obj)} {σ : St} {G₀ H G : Hp} {δ : DS} {s : Shared} {ev : Value} {s' : Shared} (hst : X.stack = X.env :: X.outer) (hex : X.ex = []) (I : Inv X pins σ H s) (R : Rel X X.H₀ G₀ σ H G δ)
  (hE : ∀ C H' G', X.mg c = some (.ref C) → Ext X.H₀ G₀ H' G' → E₀ (.ref C) none H') (x : IsX X c H G s ev s') : XE1 X E₀ ev s' := by
 obtain ⟨e, C, Bk, H', G', rfl, h1, h2, h3, h4, h5, h6, h7, h8⟩ := x
 have hno : ∀ b, b ∉ X.ex := fun b z => by rw [hex] at z; cases z
 refine ⟨e, C, Bk, H', rfl, hE C H' G' h1 (R.ext.trans h2), h3, h4.trans I.os, h5, h6, h7, fun b o q n hb => ?_, fun b o q n hb => ?_, fun b o q n => ?_, R.ext.hh.trans h8.same⟩
 ·refine h8.keep b o (I.base.keep b o q n hb (hno b)) (I.base.free b o q n (hno b)) fun hm => ?_
  rw [hst] at hm
  obtain ⟨env, he, hf⟩ := List.mem_filterMap.mp hm
  rcases List.mem_cons.mp he with rfl | he
  ·rcases I.ok.stk with z | ⟨_, z⟩
   ·rw [hst] at z
    have := congrArg List.length z
    simp at this
   ·rw [z] at hf; cases hf
    exact absurd (Heap.lt_size q) (Nat.not_lt.mpr I.ok.above)
  ·exact hb (List.mem_filterMap.mpr ⟨env, he, hf⟩)
 ·obtain ⟨sl, e1⟩ := I.base.slot b o q n hb (hno b)
  obtain ⟨sl2, e2⟩ := h8.slot b _ e1 (I.base.free b o q n (hno b)) (fs_sub hst b hb)
  exact ⟨sl2, e2⟩
 ·obtain ⟨o', e1⟩ := I.base.there b o q (hno b)
  exact h8.free b o' e1 (I.base.free b o q n (hno b))
theorem cx1_isX {X : Cx} {c : Str} {pins : List (Addr × Obj)} {σ : St} {H G : Hp} {s : Shared} {ev : Value} {s' : Shared} {E : XK} (I : Inv X pins σ H s) (hE : ∀ C H', E (.ref C) none H' → ∃ G', X.mg c = some (.ref C) ∧ Ext H G H' G') (x : CX1 X.prog X.w X.stack H s E ev s') : IsX X c H G s ev s' := by
 obtain ⟨e, C, Bk, H', rfl, h1, ⟨t, h2⟩, h3, h4, h5, h6, h7⟩ := x
 obtain ⟨G', m, ex⟩ := hE C H' h1
 exact ⟨e, C, Bk, H', G', rfl, m, ex, .inl ⟨t, _, h2.1, h2.2.1, h2.2.2.1, h2.2.2.2.at⟩, h3, h4, h5, h6, h7⟩
end M

set_option Elab.async false
set_option linter.all false
set_option maxRecDepth 100000
set_option maxHeartbeats 4000000
namespace M
open PySem PySem.Spec PyProof.Rows L2
set_option autoImplicit false

noncomputable def finX : Out → Rs D
 | .nx _ => .ok .non
 | .rt d => .ok d
 | .exc c _ => .exc c
 | _ => .bad
noncomputable def fnX (n m : Nat) (F : DS → Out) (ds : List D) : Rs D := if ds.length = n then finX (F (ds.map vsl ++ List.replicate m none)) else .bad
noncomputable def spX (K : PySem.W.Frag) (mg : Str → Option Value) (g : List D → Rs D) (n : Nat) : Sp := fun vs H Q E => ∃ G ds, Same G H ∧ IsL K G ds vs ∧ ds.length = n ∧
 (g ds).wp (fun c => ∀ C H' G', mg c = some (.ref C) → Ext H G H' G' → E (.ref C) none H') fun d => ∀ v H' G', Ext H G H' G' → Is K G' d v → Q v H'
structure FnX (P : Program) (w : World) (K : PySem.W.Frag) (mg : Str → Option Value) (base : Heap) (x : Str) (k n : Nat) (g : List D → Rs D) : Prop where
 ex : ∃ (f : Addr) (fd : FuncData) (ps : List Str), FnOk P w K mg base (CX1 P w) k f fd ps (spX K mg g n) ∧ Binds K fd ps [] ∧ mg x = some (.ref f) ∧ PySem.W.keepIn K (.ref f) = true
 len : ∀ ds, ds.length ≠ n → g ds = .bad
section
variable {P : Program} {w : World} {K : PySem.W.Frag} {mg : Str → Option Value} {base : Heap}
theorem fnX_len (n m : Nat) (F : DS → Out) : ∀ ds : List D, ds.length ≠ n → fnX n m F ds = .bad := fun ds h => by unfold fnX; rw [if_neg h]
theorem pss_wish1 {X : Cx} {E : Value → Shared → Prop} {st : List Stmt} {t : TS} (h : PSs (X.wish E) st t) (hE : X.Ok → ∀ ev s', E ev s' → X.xe ev s') : PSs X st t := fun pins s σ H D I hw =>
 wpAny_mono (h pins s σ H D (I.wish _) hw) (fun _ _ q => q.unwish) fun ev s' z => hE I.ok ev s' z
noncomputable abbrev cxX (P : Program) (w : World) (K : PySem.W.Frag) (mg : Str → Option Value) (base : Heap) (N : List Str) (qual : Str) (sc : Scope) (f : Addr) (cdv : Value) (A : Around) (outer : List Env) (s : Shared) (H : Hp) (E : XK) : Cx :=
 (cxOf (CX1 P w) P w K mg base N qual sc f cdv A outer s H E).wish (XE1 (cxOf (CX1 P w) P w K mg base N qual sc f cdv A outer s H E) E)
theorem def_okX {x qual : Str} {st : Stmt} {f : Addr} {fd : FuncData} {N ps : List Str} {k m : Nat} {Fb : DS → Out} (F : Fun K x qual st f fd) (S : FnScope N ps (defScope st)) (hm : N.length - ps.length = m)
  (hb : ∀ (kV doc pm : Value) (an : Option Addr) (cdv ct : Value) (us : List Value), us.length = ps.length → bindArgs (PySem.W.fnOf x qual (defArgs st) (defBody st) (defScope st) .none kV doc pm an cdv ct) ⟨us, []⟩ = pure (ps.zip us))
  (hx : mg x = some (.ref f))
  (hbody : ∀ (cdv : Value) (A : Around) (outer : List Env) (s : Shared) (H : Hp) (E : XK) (G₀ : Hp), Room k (A.deeper (envOfC qual (defScope st) s.heap.objs.size f cdv)) →
   PSs (cxX P w K mg base N qual (defScope st) f cdv A outer s H E) (defBody st) (tS (cxX P w K mg base N qual (defScope st) f cdv A outer s H E) H G₀ Fb)) :
  FnX P w K mg base x (k + 1) ps.length (fnX ps.length m Fb) := by
 refine ⟨⟨f, fd, ps, ?_, F.binds hb, hx, F.kp⟩, fnX_len _ _ _⟩
 obtain ⟨oc, od, kV, doc, pm, an, cdv, ct, osl, rfl, lk, hcd⟩ := F.ex
 refine fn_of lk hcd S (fun vs H Q E ⟨G, ds, gh, i, hl, _⟩ => by rw [i.length, hl]) fun A outer s H vs Q E hr ⟨G, ds, gh, i, hl, hw⟩ => ?_
 refine ⟨_, pss_wish1 (hbody cdv A outer s H E G hr) (fun ok ev s' z => leaves1 ok.frames z), G, ds.map vsl ++ List.replicate m none, ?_, ?_⟩
 ·have := rel_start (X := cxX P w K mg base N qual (defScope st) f cdv A outer s H E) gh i m
  unfold L2.start
  rw [i.length, hl, hm]
  exact this
 ·unfold fnX at hw
  rw [if_pos hl] at hw
  cases q : Fb (ds.map vsl ++ List.replicate m none) with
  | nx δ => rw [q] at hw; exact fun σ H' G' R => hw .non H' G' R.ext rfl
  | rt d => rw [q] at hw; exact fun v H' G' e i => hw v H' G' e i
  | bk δ => rw [q] at hw; exact hw.elim
  | ct δ => rw [q] at hw; exact hw.elim
  | exc c δ =>
   rw [q] at hw
   exact fun pins σ s1 H1 G1 ev R I s'' x => isX_XE1 (X := cxX P w K mg base N qual (defScope st) f cdv A outer s H E) rfl rfl I R (fun C H' G' hm ex => hw C H' G' hm ex) x
  | bad => rw [q] at hw; exact hw.elim
end
section
variable {X : Cx} {B G₀ : Hp} {x : Str} {k n : Nat} {g : List D → Rs D} {e : Expr} {es : List Expr} {fr : DS → Rs (List D)} {p pos : Pos}
theorem run_fnX {pins : List (Addr × Obj)} {σ : St} {H : Hp} {s : Shared} {Q : VK} {us : List Value} {vs : List V} {f : Addr} {fd : FuncData} {ps : List Str} {sp : Sp} {E : XK} (F : FnOk X.prog X.w X.K X.mg X.base (CX1 X.prog X.w) k f fd ps sp) (hr : Room k X.A) (hb : Binds X.K fd ps [])
  (hx : ∀ ev s', CX1 X.prog X.w X.stack H s E ev s' → X.xe ev s') (I : Inv X pins σ H s) (r : Vals vs us) (h : sp vs H Q E) : wpAny (model X.prog X.w) X.A (call (.ref f) us) (EP X pins σ Q) X.xe s := by
 have hl : us.length = ps.length := by rw [← r.length]; exact F.len _ _ _ _ h
 have hb' : BindsTo s fd ⟨us, []⟩ (ps.zip us) := by
  have := hb s us I.kIn (by rw [List.append_nil]; exact hl)
  rw [List.append_nil] at this
  exact this
 refine wpAny_call (codeAny_mono (F.run X.A X.stack s H ⟨us, []⟩ us vs Q E hr I.env0 hb' r h) fun r s' hq => ?_)
 cases r with
 | error e => exact hx e s' hq
 | ok fl =>
  cases fl with
  | ret u => exact I.after hq
  | next => exact False.elim hq
  | brk => exact False.elim hq
  | cont => exact False.elim hq
theorem q_callX (F : FnX X.prog X.w X.K X.mg X.base x k n g) (hr : Room k X.A) (ha : PA X (e :: es) (tAs X B G₀ fr)) (hg : Gl X x := by rfl) (hdb : (x == ("__debug__" : Str)) = false := by decide)
  (he : starEach (e :: es) X.env = (false, eval e X.env) :: starEach es X.env := by rfl) (hpl : (backTo pos (starEach es X.env)).any (·.1) = false := by rfl) :
  PE X (.Call (.Name x p) (e :: es) [] pos) (tE X B G₀ (appF g fr)) := by
 obtain ⟨⟨f, fd, ps, hF, hb, hm, hk⟩, hlen⟩ := F
 intro pins s σ H Q I ⟨G, δ, R, hw⟩
 refine wpAny_Call_Name_kw (ld_glob I hg hm ?_ hdb)
 have hw : (fr δ >>= g).wp (fun c => Xo X c σ H G) fun d => ∀ v H' G', Ext H G H' G' → Is X.K G' d v → Q v H' := hw
 refine PySem.W.callWith_K (h₀ := X.base) I.ok.mod.kin hk (bindA ha I R hw fun ds us vs s1 H1 G1 I1 R1 r1 e1 i1 hw1 => ⟨I1.kIn, ?_⟩) he hpl
 by_cases hl : ds.length = n
 ·refine run_fnX (E := fun cls _ H' => ∃ c C G', g ds = .exc c ∧ cls = .ref C ∧ X.mg c = some (.ref C) ∧ Ext H1 G1 H' G') hF hr hb (fun ev s' cx => ?_) I1 r1 ⟨G1, ds, e1.gh, i1, hl, ?_⟩
  ·cases hgd : g ds with
   | exc c =>
    rw [hgd] at hw1
    refine hw1 pins s1 H1 G1 ev (Ext.refl e1.gh) I1 s' (cx1_isX I1 (fun C H' hE => ?_) cx)
    obtain ⟨c', C', G', h1, h2, h3, h4⟩ := hE
    rw [hgd] at h1; cases h1; cases h2
    exact ⟨G', h3, h4⟩
   | ok d => obtain ⟨e, C, Bk, H', rfl, ⟨c', C', G', h1, _⟩, _⟩ := cx; rw [hgd] at h1; cases h1
   | bad => rw [hgd] at hw1; exact hw1.elim
  ·cases hgd : g ds with
   | exc c => exact fun C H' G' hm' ex => ⟨c, C, G', rfl, rfl, hm', ex⟩
   | ok d => rw [hgd] at hw1; exact fun v H' G' e' i' => hw1 v H' G' (e1.trans e') i'
   | bad => rw [hgd] at hw1; exact hw1.elim
 ·rw [hlen ds hl] at hw1; exact hw1.elim
end
@[simp] theorem s_finXnx (δ : DS) : finX (.nx δ) = .ok .non := nodef rfl
@[simp] theorem s_finXexc (c : Str) (δ : DS) : finX (.exc c δ) = .exc c := nodef rfl
@[simp] theorem s_fnX1 (m : Nat) (F : DS → Out) (a : D) : fnX 1 m F [a] = finX (F (some (.v a) :: List.replicate m none)) := nodef rfl
@[simp] theorem s_fnX2 (m : Nat) (F : DS → Out) (a b : D) : fnX 2 m F [a, b] = finX (F (some (.v a) :: some (.v b) :: List.replicate m none)) := nodef rfl
@[simp] theorem s_fnX3 (m : Nat) (F : DS → Out) (a b c : D) : fnX 3 m F [a, b, c] = finX (F (some (.v a) :: some (.v b) :: some (.v c) :: List.replicate m none)) := nodef rfl
@[simp] theorem s_fnX4 (m : Nat) (F : DS → Out) (a b c d : D) : fnX 4 m F [a, b, c, d] = finX (F (some (.v a) :: some (.v b) :: some (.v c) :: some (.v d) :: List.replicate m none)) := nodef rfl
@[simp] theorem s_fnX5 (m : Nat) (F : DS → Out) (a b c d e : D) : fnX 5 m F [a, b, c, d, e] = finX (F (some (.v a) :: some (.v b) :: some (.v c) :: some (.v d) :: some (.v e) :: List.replicate m none)) := nodef rfl
@[simp] theorem exc_out {α : Type} (c : Str) (δ : DS) (k : α → Out) : (Rs.exc c : Rs α).out δ k = .exc c δ := nodef rfl
end M

set_option Elab.async false
set_option linter.all false
set_option maxRecDepth 100000
set_option maxHeartbeats 4000000
namespace M
open PySem PySem.Spec PyProof.Rows L2
set_option autoImplicit false

noncomputable abbrev VE : List Value := [.type "ValueError", .type "Exception", .type "BaseException", .type "object"]
noncomputable def ExcC (K : PySem.W.Frag) (mg : Str → Option Value) (x : Str) : Prop := ∃ C, mg x = some (.ref C) ∧ PySem.W.excIn K C VE "ValueError.__new__" = true
theorem excC_obj {K : PySem.W.Frag} {h : Heap} {C : Addr} (X : K.In h) (q : PySem.W.excIn K C VE "ValueError.__new__" = true) :
  ∃ (bm : List Value) (N : Addr) (nm qn : Str) (bs : List Value) (hd : Bool) (sn : List Str) (sub : List Value) (ab : Bool) (col : Option Bool) (dd : Option Addr) (k0 k1 k2 k3 k5 : Option Value) (mN : Str → Option Value),
   h.get? C = some (excClassObj nm qn C N bs bm hd sn sub ab col dd k0 k1 k2 k3 k5 "ValueError.__new__") ∧ h.Ns N mN ∧ mN "__init__" = none ∧ OwnTail h VE bm := by
 unfold PySem.W.excIn at q
 split at q
 ·rename_i dd0 cd0 sl0 hlook
  split at q
  ·rename_i C2 tl j0 j1 j2 j3 nid j5 hmro hsl
   have q0 := q
   simp only [Bool.and_eq_true, beq_iff_eq, Bool.not_eq_true'] at q0
   obtain ⟨⟨⟨⟨⟨z1, z2⟩, z3⟩, z4⟩, z5⟩, z6⟩ := q0
   cases z1; cases z2
   have hslots : sl0 = #[j0, j1, j2, j3, some (.builtin "ValueError.__new__"), j5] := by
    cases sl0 with
    | mk ll => exact congrArg Array.mk hsl
   cases cd0 with
   | mk a1 a2 a3 a4 a5 a6 a7 a8 a9 a10 a11 =>
    have e3 : a3 = _ := hmro
    have e11 : a11 = false := z3
    cases e3; cases e11; cases hslots
    exact ⟨tl, a4, a1, a5, a2, a6, a7, a8, a9, a10, dd0, j0, j1, j2, j3, j5, _, X _ _ hlook, Heap.Ns.of_isNs (PySem.W.isNs_of_in X z5), PySem.W.nsMap_none_of_in X z5 z6, PySem.W.tail_of_in X z4⟩
  ·cases q
 ·cases q
noncomputable def raiseS (c : Str) (fr : FA) : FS := fun δ => (fr δ).out δ fun ds => if ds.length ≤ 1000 then .exc c δ else .bad
section
variable {X : Cx} {B G₀ : Hp} {e : Expr} {es : List Expr} {fr : FA} {x : Str} {np cpos pos : Pos}
theorem made_isX {pins : List (Addr × Obj)} {σ : St} {H G : Hp} {s : Shared} {h' : Heap} {ea C : Addr} {vs : List Value} (I : Inv X pins σ H s) (gh : Same G H) (hm : X.mg x = some (.ref C)) (mx : Heap.MadeExcOf s.heap h' ea (.ref C) vs) : IsX X x H G s (.ref ea) { s with heap := h' } := by
 have hin : ∀ env ∈ X.stack, ∀ b, env.frame = some b → b ∈ frs X.stack := fun env he b hb => List.mem_filterMap.mpr ⟨env, he, hb⟩
 refine ⟨ea, C, PySem.W.hideAll s.heap (frs X.stack), H, G, rfl, hm, Ext.refl gh, .inr ⟨s.heap, vs, fun b o q => PySem.W.of_hideAll _ q, PySem.W.funFrames_hide I.stack hin, mx⟩, rfl, I.bare, fun b ob q => ?_, fun b o q hb => ?_, fun b o q n hb => PySem.W.hideAll_get _ q hb, fun b o q n hb => ⟨o.slots, mx.keeps b o q⟩, fun _ _ _ n => n, Same.refl _⟩
 ·refine (I.hok b ob q).stay (fun d o hd z => PySem.W.hideAll_get _ z fun hmem => ?_) (fun _ z => z) fun _ _ z => z
  have hn := I.stkFree d hmem
  rcases hd with rfl | hd
  ·rw [q] at hn; cases hn
  ·rw [hd] at hn; cases hn
 ·have := I.stkFree b hb
  rw [q] at this; cases this
theorem q_raise (hc : X.calm = true) (hC : ExcC X.K X.mg x) (ha : PA X (e :: es) (tAs X B G₀ fr)) (hg : Gl X x := by rfl) (hdb : (x == ("__debug__" : Str)) = false := by decide)
  (he : starEach (e :: es) X.env = (false, eval e X.env) :: starEach es X.env := by rfl) (hpl : (backTo cpos (starEach es X.env)).any (·.1) = false := by rfl) :
  PS X (.Raise (some (.Call (.Name x np) (e :: es) [] cpos)) none pos) (tS X B G₀ (raiseS x fr)) := by
 intro pins s σ H D' I ⟨G, δ, R, hw⟩
 obtain ⟨C, hm, hex⟩ := hC
 obtain ⟨bm, N, nm, qn, bs, hd, sn, sub, ab, col, dd, k0, k1, k2, k3, k5, mN, o1, o2, o3, o4⟩ := excC_obj I.ok.mod.kin hex
 refine wpAny_Raise_call_subT PySem.F.excBase_ValueError (C := C) (N := N) (mN := mN) (bm := bm) (nm := nm) (q := qn) (bs := bs) (hdct := hd) (sn := sn) (sub := sub) (ab := ab) (col := col) (dd := dd) (k0 := k0) (k1 := k1) (k2 := k2) (k3 := k3) (k5 := k5) (OwnTail.hasType o4 (by decide)) (I.ok.hd hc) (by rw [he]; show (false || (backTo cpos (starEach es X.env)).any (·.1)) = false; rw [hpl]; rfl) o3 (ld_glob I hg hm ⟨rfl, ?_⟩ hdb)
 have hw : WS X B G₀ D' ((fr δ).out δ fun ds => if ds.length ≤ 1000 then .exc x δ else .bad) := hw
 have hrun := ha cpos pins s σ H (fun vs H' => vs.length ≤ sizeLine ∧ ∃ G', Ext H G H' G' ∧ XS X B G₀ x δ) I ⟨G, δ, R, ?_⟩
 ·rw [he] at hrun ⊢
  refine Calls.evalArgs_plain (thn hrun fun us s2 ⟨vs, H2, I2, r2, hl, G2, e2, hx⟩ => ?_)
  have kp : ∀ b o, X.base.get? b = some o → s2.heap.get? b = some o := I2.bk
  refine ⟨rfl, by rw [← r2.length]; exact hl, kp _ _ o1, o2.keeps kp, o4.keeps kp, fun h' ea mx => ?_⟩
  exact hx pins σ s2 H2 G2 (.ref ea) (R.mono e2) I2 _ (made_isX I2 e2.gh hm mx)
 ·cases q : fr δ with
  | ok ds =>
   rw [q] at hw
   intro vs H' G' e' i'
   have hw : WS X B G₀ D' (if ds.length ≤ 1000 then .exc x δ else .bad) := hw
   split at hw
   ·rename_i hl
    exact ⟨Nat.le_trans (by rw [i'.length]; exact hl) thousand, G', e', hw⟩
   ·exact hw.elim
  | exc c => rw [q] at hw; exact fun pins s' H' G' ev e I x => hw pins σ s' H' G' ev (R.mono e) I x
  | bad => rw [q] at hw; exact hw.elim
end
@[simp] theorem s_raiseS (c : Str) (fr : FA) (δ : DS) : raiseS c fr δ = (fr δ).out δ fun ds => if ds.length ≤ 1000 then .exc c δ else .bad := nodef rfl
end M

set_option Elab.async false
set_option linter.all false
set_option maxRecDepth 100000
set_option maxHeartbeats 4000000
namespace M
open PySem PySem.Spec PyProof.Rows L2
set_option autoImplicit false

noncomputable abbrev _root_.L2.Cx.tr (X : Cx) (pn : List (Addr × Obj)) (E : Value → Shared → Prop) : Cx := { X with pn := pn, xe := E }
noncomputable abbrev _root_.L2.Cx.mrk (X : Cx) (e : Addr) : Cx := { X with A := X.A.mark (some (.ref e)), calm := false, xe := fun _ _ => False }
section
variable {X : Cx} {B G₀ : Hp} {pins : List (Addr × Obj)} {σ : St} {H G : Hp} {s : Shared} {δ : DS}
theorem _root_.L2.Cx.Ok.tr (ok : X.Ok) (pn : List (Addr × Obj)) (E : Value → Shared → Prop) : (X.tr pn E).Ok :=
 ⟨ok.mod, ok.kind, ok.glob, ok.blt, ok.above, ok.inj, ok.has, ok.cab, ok.hd, ok.frames, ok.stk, ok.exf, ok.bs, ok.bsz, ok.noex, ok.exfs, ok.funs, ok.frf⟩
theorem _root_.L2.Cx.Ok.mrk (ok : X.Ok) (e : Addr) : (X.mrk e).Ok :=
 ⟨ok.mod, ok.kind, ok.glob, ok.blt, ok.above, ok.inj, ok.has, ok.cab, fun h => (by cases h), ok.frames, ok.stk, ok.exf, ok.bs, ok.bsz, ok.noex, ok.exfs, ok.funs, ok.frf⟩
theorem _root_.L2.Inv.tr (I : Inv X pins σ H s) (E : Value → Shared → Prop) : Inv (X.tr (X.pn ++ pins) E) [] σ H s :=
 ⟨I.ok.tr _ E, I.os, I.bare, I.base, I.loc, I.cell, I.free, I.freeC, fun p hp => I.pin p (by simpa using hp), I.hok, I.len⟩
theorem _root_.L2.Inv.untr {E : Value → Shared → Prop} {pins' : List (Addr × Obj)} (ok : X.Ok) (I : Inv (X.tr (X.pn ++ pins) E) pins' σ H s) : Inv X pins σ H s :=
 ⟨ok, I.os, I.bare, I.base, I.loc, I.cell, I.free, I.freeC, fun p hp => I.pin p (List.mem_append_left _ hp), I.hok, I.len⟩
theorem _root_.L2.Inv.mrk (I : Inv X pins σ H s) (e : Addr) : Inv (X.mrk e) pins σ H s := ⟨I.ok.mrk e, I.os, I.bare, I.base, I.loc, I.cell, I.free, I.freeC, I.pin, I.hok, I.len⟩
theorem _root_.L2.SP.untr {E : Value → Shared → Prop} {pins' : List (Addr × Obj)} {D : Ends} {f : Flow} {s' : Shared} (ok : X.Ok) (h : SP (X.tr (X.pn ++ pins) E) pins' D f s') : SP X pins D f s' := by
 cases f with
 | next => obtain ⟨σ', H', I, q⟩ := h; exact ⟨σ', H', I.untr ok, q⟩
 | brk => obtain ⟨σ', H', I, q⟩ := h; exact ⟨σ', H', I.untr ok, q⟩
 | cont => obtain ⟨σ', H', I, q⟩ := h; exact ⟨σ', H', I.untr ok, q⟩
 | ret u => obtain ⟨v, σ', H', I, r, q⟩ := h; exact ⟨v, σ', H', I.untr ok, r, q⟩
theorem Rel.cx {Y : Cx} (R : Rel X B G₀ σ H G δ) (h : X.K = Y.K := by rfl) : Rel Y B G₀ σ H G δ :=
 ⟨R.ext, R.len, fun i d q => by rw [← h]; exact R.val i d q, fun i k ds q => by rw [← h]; exact R.own i ds q, R.apart⟩
noncomputable def exnP (e C : Addr) : Heap → Prop := fun h => ∃ o, h.get? e = some o ∧ o.cls = .ref C
theorem caught {e C t : Addr} {Bk : Heap} {H' : Hp} {h : Heap} {g : Array GenState} {d : Drawn} {tk : Nat} (I : Inv X pins σ H s) (fl : Heap.FlyingW Bk X.stack e (.ref C) (.ref t) h) (hb : AllBare g) (hok : HOk X.prog X.w H' Bk)
  (u : UnB (frs X.stack) H H' s.heap Bk h) : H' e = none ∧ Inv X pins σ (upd H' e (.ext (exnP e C))) ⟨h, g, d, tk, s.os⟩ := by
 have hne : H' e = none := by
  cases q : H' e with
  | none => rfl
  | some o =>
   obtain ⟨ob, z⟩ := HOk.there' hok q
   rw [fl.2.1] at z; cases z
 obtain ⟨oe, vs, he, hcl, hd, _⟩ := fl.first
 have hold : ∀ b o, s.heap.get? b = some o → H b = none → b ≠ e := fun b o q n z => by
  subst z
  by_cases hm : b ∈ frs X.stack
  ·obtain ⟨_, ob, ho, nf⟩ := fl.2.2.1.mem hm
   rw [he] at ho; cases ho
   exact nf vs hd
  ·have := u.keep b o q n hm
   rw [fl.2.1] at this; cases this
 have hok2 : HOk X.prog X.w H' h := hok.kept fl.1
 have un := u.un fl.1 hok fun a o q => HOk.there' hok2 (u.same a o q)
 have up : ∀ {b : Addr} {o : HO}, H' b = some o → upd H' e (.ext (exnP e C)) b = some o := fun {b o} q => by rw [upd_ne (ne_of_none q hne)]; exact q
 have un2 : Un (frs X.stack) [] H (upd H' e (.ext (exnP e C))) s.heap h :=
  ⟨un.keep, un.slot, fun b o q n hx => by rw [upd_ne (hold b o q n)]; exact un.free b o q n hx, un.there, fun b xs q => up (un.tups b xs q), fun b o x q => up (un.frzs b o x q),
   fun b ps q => let ⟨more, z⟩ := un.tbls b ps q; ⟨more, up z⟩⟩
 have hok3 : HOk X.prog X.w (upd H' e (.ext (exnP e C))) h := fun a o q => by
  by_cases ha : a = e
  ·subst ha
   rw [upd_same] at q; cases q
   exact ⟨⟨oe, he, hcl⟩, ⟨oe, he⟩, fun h1 h2 ⟨o, z1, z2⟩ k => ⟨o, k o z1, z2⟩⟩
  ·rw [upd_ne ha] at q
   exact (hok2 a o q).stay (fun _ _ _ z => z) (fun b z => up z) fun b xs z => up z
 exact ⟨hne, I.call' (s' := ⟨h, g, d, tk, s.os⟩) rfl un2 hok3 hb fun b hb => by cases hb⟩
theorem gone {e : Addr} {h' : Heap} {m' : Str → Option Value} {tk : Nat} (ok : X.Ok) (I : Inv (X.mrk e) pins σ H s) (hn : h'.Ns X.env.locals m') (hs : Heap.SameBut X.env.locals s.heap h') : Inv X pins (List.replicate X.N.length none) H { s with heap := h', toks := tk } := by
 have bne : ∀ b o, X.s₀.heap.get? b = some o → b ≠ X.env.locals := fun b o e => Nat.ne_of_lt (Nat.lt_of_lt_of_le (Heap.lt_size e) ok.above)
 refine ⟨ok, I.os, I.bare, ⟨fun b o e n hb hx => (hs.2 b (bne b o e)).trans (I.base.keep b o e n hb hx), fun b o e n hb hx => ?_, I.base.free, fun b o e hx => ?_, I.base.tups, I.base.frzs, I.base.tbls⟩,
  ⟨_, hn, fun i x v _ z => ?_⟩, fun x c q => ?_, I.free, I.freeC, fun p hp => ?_, fun b ob q => ?_, by simp⟩
 ·obtain ⟨sl, z⟩ := I.base.slot b o e n hb hx
  exact ⟨sl, (hs.2 b (bne b o e)).trans z⟩
 ·obtain ⟨o', z⟩ := I.base.there b o e hx
  exact ⟨o', (hs.2 b (bne b o e)).trans z⟩
 ·rw [List.getElem?_replicate] at z
  split at z <;> cases z
 ·obtain ⟨v, hv⟩ := I.cell x c q
  exact ⟨v, hv.sameBut hs (I.cne x c q)⟩
 ·obtain ⟨z1, z2, z3, z4⟩ := I.pin p hp
  exact ⟨(hs.2 _ z3).trans z1, z2, z3, z4⟩
 ·refine (I.hok b ob q).stay (fun c w' hc z => (hs.2 c ?_).trans z) (fun _ z => z) fun _ _ z => z
  rintro rfl
  have hfree : H X.env.locals = none := I.free
  rcases hc with rfl | hc
  ·rw [hfree] at q; cases q
  ·rw [hfree] at hc; cases hc
end
noncomputable def ExM (K : PySem.W.Frag) (mg : Str → Option Value) (c d : Str) : Prop :=
 ∃ C D, mg c = some (.ref C) ∧ PySem.W.nsIn K mainGlobals c = some (some (.ref C)) ∧ mg d = some (.ref D) ∧ PySem.W.exmOne K (.ref C) (.ref D) = some true
noncomputable def tryO (cs : List Str) (i : Nat) (F2 : FS) : Out → Out
 | .exc c δ => if c ∈ cs then (match F2 (δ.set i (some (.v (.exn c)))) with | .rt d => .rt d | _ => .bad) else .bad
 | o => o
noncomputable def tryS (cs : List Str) (i : Nat) (F1 F2 : FS) : FS := fun δ => tryO cs i F2 (F1 δ)
section
variable {X : Cx} {B G₀ : Hp} {F1 F2 : FS} {cls en : Str} {np hpos pos : Pos} {body suite : List Stmt} {b₀ : Stmt} {cs : List Str}
theorem q_try (i : Nat) (hN : X.N.Nodup) (hcs : ∀ c ∈ cs, ExM X.K X.mg c cls) (hb : ∀ pn E, PSs (X.tr pn E) body (tS (X.tr pn E) B G₀ F1)) (hsu : ∀ e, PSs (X.mrk e) (b₀ :: suite) (tS (X.mrk e) B G₀ F2))
  (hst : X.stack = X.env :: X.outer := by rfl) (hf : X.env.frame = some X.env.locals := by rfl) (hg : Gl X cls := by rfl) (hdb : (cls == ("__debug__" : Str)) = false := by decide) (hi : X.N[i]? = some en := by rfl) (hl : X.env.scope.names.lookup en = some .local := by rfl) :
  PS X (.Try body [.ExceptHandler (some (.Name cls np)) (some en) (b₀ :: suite) hpos] [] [] pos) (tS X B G₀ (tryS cs i F1 F2)) := by
 intro pins s σ H D' I ⟨G, δ, R, hw⟩
 have hw : WS X B G₀ D' (tryO cs i F2 (F1 δ)) := hw
 refine wpAny_Try_except ?_
 have plain : ∀ o, F1 δ = o → (∀ c δ', o ≠ .exc c δ') → WS (X.tr (X.pn ++ pins) fun _ _ => False) B G₀ D' o → wpAny (model X.prog X.w) X.A (execs body X.env) (fun f s₁ => match f with | .next => wpAny (model X.prog X.w) X.A (execs [] X.env) (SP X pins D') X.xe s₁ | f => SP X pins D' f s₁)
   (fun e s₁ => wpAny (model X.prog X.w) X.A (noteFrame e X.env) (fun _ s₂ => wpAny (model X.prog X.w) X.A (setFlight e none) (fun _ s₃ => wpAny (model X.prog X.w) X.A (handleBy e X.env [.ExceptHandler (some (.Name cls np)) (some en) (b₀ :: suite) hpos]) (SP X pins D') X.xe s₃) X.xe s₂) X.xe s₁) s := by
  intro o ho _ hwo
  refine wpAny_mono (hb (X.pn ++ pins) (fun _ _ => False) [] s σ H D' (I.tr _) ⟨G, δ, R.cx, by rw [ho]; exact hwo⟩) (fun f s1 hsp => ?_) fun _ _ z => False.elim z
  have z := hsp.untr I.ok
  cases f with
  | next => exact wpAny_execs_nil z
  | brk => exact z
  | cont => exact z
  | ret u => exact z
 cases q : F1 δ with
 | nx δ' => rw [q] at hw; exact plain _ q (fun _ _ z => nomatch z) fun σ H G R' => hw σ H G (R'.cx)
 | rt d => rw [q] at hw; exact plain _ q (fun _ _ z => nomatch z) hw
 | bk δ' => rw [q] at hw; exact plain _ q (fun _ _ z => nomatch z) fun σ H G R' => hw σ H G (R'.cx)
 | ct δ' => rw [q] at hw; exact plain _ q (fun _ _ z => nomatch z) fun σ H G R' => hw σ H G (R'.cx)
 | bad => rw [q] at hw; exact hw.elim
 | exc c δ' =>
  rw [q] at hw
  have hw : WS X B G₀ D' (if c ∈ cs then (match F2 (δ'.set i (some (.v (.exn c)))) with | .rt d => .rt d | _ => .bad) else .bad) := hw
  split at hw
  rotate_left
  ·exact hw.elim
  rename_i hcc
  have hbody := hb (X.pn ++ pins) (fun ev s'' => ∃ σ H G s', Rel X B G₀ σ H G δ' ∧ Inv X pins σ H s' ∧ IsX X c H G s' ev s'') [] s σ H { nx := fun _ _ => False, rt := fun _ _ => False } (I.tr _) ⟨G, δ, R.cx, by
   rw [q]
   exact fun pins' σ' s' H' G' ev R' I' s'' x => ⟨σ', H', G', s', R'.cx, I'.untr I.ok, x⟩⟩
  refine wpAny_mono hbody (fun f s1 hsp => ?_) fun ev s1 hev => ?_
  ·exfalso
   cases f with
   | next => obtain ⟨_, _, _, z⟩ := hsp; exact z
   | brk => obtain ⟨_, _, _, z⟩ := hsp; exact z
   | cont => obtain ⟨_, _, _, z⟩ := hsp; exact z
   | ret u => obtain ⟨_, _, _, _, _, z⟩ := hsp; exact z
  obtain ⟨σ1, H1, G1, s0, R1, I1, e, C, Bk, H', G', rfl, hm, hx, fl, ho, hbr, hok, hnf, hu⟩ := hev
  obtain ⟨hp1, g1, d1, t1, o1⟩ := s1
  have ho : o1 = s0.os := ho
  subst ho
  have hfr : X.A.frames = some (X.env :: X.outer) := by rw [← hst]; exact I.ok.frames
  have fl' : Fl Bk (X.env :: X.outer) e C hp1 := by rw [← hst]; exact fl
  have hmem : ∀ b ∈ frs X.stack, b ∈ frs (X.env :: X.outer) := by rw [hst]; exact fun _ z => z
  refine fl_note hfr hf fl' fun h' t hh up => ?_
  have u1 := hu.slots fl'.frames.1 hmem up
  refine wpAny_landsW (s := ⟨h', g1, d1, t1, s0.os⟩) hh fun h2 hfl up2 => ?_
  have u2 := u1.slots hh.2.2.1 hmem up2
  obtain ⟨C', D0, m1, ns1, m2, ex⟩ := hcs c hcc
  rw [hm] at m1; cases m1
  obtain ⟨hne, I2⟩ := caught (h := h2) (g := g1) (d := d1) (tk := t1) I1 (by rw [hst]; exact hfl) hbr hok u2
  refine wpAny_handleBy_cons (codeAny_handlers_test (ld_glob (I2.mrk e) hg m2 ?_ hdb)) (by intro z; cases z)
  obtain ⟨oe, he, hcl⟩ := hfl.there
  have LT : PySem.W.Looks (model X.prog X.w) h2 (typeOf (.ref e)) (.ref C) := hcl ▸ (PySem.W.Looks.ld he).andThen .now
  refine (PySem.W.exm_one I2.kIn LT ex).here ?_
  refine codeAny_handlers_suite_as ?_
  refine lands_againW (s := ⟨h2, g1, d1, t1, s0.os⟩) hfl fun h3 hfl3 up3 => ?_
  have u3 := u2.slots hfl.2.2.1 hmem up3
  obtain ⟨_, I3⟩ := caught (h := h3) (g := g1) (d := d1) (tk := t1) I1 (by rw [hst]; exact hfl3) hbr hok u3
  refine store_ok (X := X.mrk e) (v := .ref e) (I3.mrk e) hN hi (.inl hl) rfl (fun s4 I4 => ?_) (.inr hl)
  have R4 : Rel (X.mrk e) B G₀ (σ1.set i (some (.ref e))) (upd H' e (.ext (exnP e C))) (upd G' e (.ext (exnP e C))) (δ'.set i (some (.v (.exn c)))) :=
   ((R1.mono (hx.trans (Ext.laid hx.gh hne))).cx).set i ⟨e, _, C, rfl, upd_same, fun h z => z, ns1⟩
  refine wpAny_mono (hsu e pins s4 _ _ { nx := fun _ _ => False, rt := D'.rt } I4 ⟨_, _, R4, ?_⟩) (fun f s5 hsp => ?_) fun _ _ z => False.elim z
  ·cases q2 : F2 (δ'.set i (some (.v (.exn c)))) with
   | rt d => rw [q2] at hw; exact hw
   | _ => rw [q2] at hw; exact hw.elim
  ·cases f with
   | next => obtain ⟨_, _, _, z⟩ := hsp; exact z.elim
   | brk => obtain ⟨_, _, _, z⟩ := hsp; exact z.elim
   | cont => obtain ⟨_, _, _, z⟩ := hsp; exact z.elim
   | ret u =>
    obtain ⟨v, σ5, H5, I5, r5, q5⟩ := hsp
    obtain ⟨m, hns, _⟩ := id I5.loc
    exact wpAny_nameGoes (m := m) hl hns (by rw [I.ok.kind]; rfl) fun h6 m6 hn6 sb => ⟨v, _, H5, gone I.ok I5 hn6 sb, r5, q5⟩
end
end M

set_option Elab.async false
set_option linter.all false
set_option maxRecDepth 100000
set_option maxHeartbeats 4000000
namespace M
open PySem PySem.Spec PyProof.Rows L2
set_option autoImplicit false

noncomputable def IsxK (K : PySem.W.Frag) (c : Str) (v : Value) : Prop := ∃ C, PySem.W.nsIn K mainGlobals c = some (some (.ref C)) ∧ PySem.W.kitOne K (.ref C) v = some true
theorem exn_isi {K : PySem.W.Frag} {e C : Addr} {c : Value} {hp : Heap → Prop} (ty : ∀ h : Heap, hp h → ∃ o, h.get? e = some o ∧ o.cls = .ref C) (he : PySem.W.kitOne K (.ref C) c = some true) :
  Answers (fun s => K.In s.heap ∧ hp s.heap) (.ref e) c true := by
 intro dep tk prog w A R s hs
 obtain ⟨hp0, gens, dr, tt, os⟩ := s
 obtain ⟨⟨X, p⟩, hq⟩ := hs
 obtain ⟨o, z1, z2⟩ := ty hp0 p
 have LT : PySem.W.Looks (model prog w) hp0 (typeOf (.ref e)) (.ref C) := z2 ▸ (PySem.W.Looks.ld z1).andThen .now
 unfold PySem.W.kitOne at he
 unfold Builtin.«isinstance.nested»
 refine wpAny_bind (LT.at ?_)
 by_cases q : (Value.ref C == c) = true
 ·rw [if_pos q]
  first
   | exact wpAny_bind (wpAny_rule (hq tt))
   | exact wpAny_bind (wpAny_rule (wpAny_pure (hq tt)))
 ·rw [if_neg q] at he ⊢
  obtain ⟨t1, t2, t3⟩ := PySem.W.kit_cls (M := model prog w) X he
  have LI : PySem.W.Looks (model prog w) hp0 (isInstance (.ref e) c) true := LT.andThen t3
  refine wpAny_bind (t1.at ?_); rw [if_pos (by decide)]
  k_delta "plainIsInstance"
  refine wpAny_bind (wpAny_bind (t2.at ?_)); simp only [Bool.not_true, Bool.false_eq_true, if_false]
  refine wpAny_bind (LI.at ?_); simp only [if_true]
  first
   | exact wpAny_pure (wpAny_pure (hq tt))
   | exact wpAny_pure (hq tt)
   | exact wpAny_bind (wpAny_pure (wpAny_pure (hq tt)))
noncomputable def isxR (cs : List Str) : D → Rs D
 | .exn c => if c ∈ cs then .ok (.bl true) else .bad
 | _ => .bad
noncomputable def isxF (cs : List Str) (fe : FE) : FE := fun δ => fe δ >>= isxR cs
section
variable {X : Cx} {B G₀ : Hp} {e : Expr} {fe : FE} {cs : List Str} {p pos : Pos}
theorem cr_isx {cV : V} {cv : Value} (hr : ∀ u, RelV cV u → u = cv) (hT : ∀ c ∈ cs, IsxK X.K c cv) : CallR X (.builtin "isinstance") (fun xs H Q => ∃ x c, xs = [x, cV] ∧ Is X.K H (.exn c) x ∧ c ∈ cs ∧ Q (.bl true) H) := by
 intro pins s σ H xs us Q I r h
 obtain ⟨x, c, rfl, ⟨a, φ, C, rfl, h1, h2, h3⟩, hc, q⟩ := h
 obtain ⟨u, w, rfl, r1, r2⟩ := vals2 r
 cases (show u = .ref a from r1)
 cases hr w r2
 obtain ⟨C', n1, n2⟩ := hT c hc
 rw [h3] at n1; cases n1
 have hφ : φ s.heap := (I.hok a _ h1).1
 exact call_isinstance (S := fun _ R s => (X.K.In s.heap ∧ φ s.heap) ∧ ∀ tk, R (.ok (.ret (.bool true))) { s with toks := tk })
  (fun prog w A R s hs => isinstance_outer (exn_isi h2 n2 0 _ prog w A R s hs) (fun z => nomatch z)) ⟨⟨I.kIn, hφ⟩, fun tk => ⟨.bl _, H, I.tok tk, rfl, q⟩⟩
theorem isx_done {cV : V} {σ : St} {H G : Hp} {δ : DS} {Q : VK} (R : Rel X B G₀ σ H G δ) (hw : W X Q σ H G (isxF cs fe δ)) :
  W X (fun v H' => ∃ c, Is X.K H' (.exn c) v ∧ c ∈ cs ∧ Q (.bl true) H') σ H G (fe δ) := by
 unfold isxF W at hw
 rw [wp_bind] at hw
 refine Rs.wp.mono hw (fun _ x => x) fun d q v H1 G1 e1 i1 => ?_
 cases d with
 | exn c =>
  have q : (if c ∈ cs then Rs.ok (D.bl true) else .bad).wp (fun c => Xo X c σ H G) fun d => ∀ v H' G', Ext H G H' G' → Is X.K G' d v → Q v H' := q
  split at q
  ·rename_i hc
   exact ⟨c, i1.same e1.gh, hc, q _ H1 G1 e1 rfl⟩
  ·exact q.elim
 | _ => exact q.elim
theorem q_isxT {y : Str} {p2 : Pos} {T : String} (hT : ∀ c ∈ cs, IsxK X.K c (.type T)) (hm : X.mg "isinstance" = none) (hm2 : X.mg y = none) (hv2 : bootBuiltins y = some (.type T)) (ha : PE X e (tE X B G₀ fe)) (hg : Gl X "isinstance" := by rfl) (hg2 : Gl X y := by rfl)
  (hn2 : y ≠ "__name__" := by decide) (hd2 : (y == ("__debug__" : Str)) = false := by decide) (hs1 : starEach [e, .Name y p2] X.env = (false, eval e X.env) :: starEach [.Name y p2] X.env := by rfl) :
  PE X (.Call (.Name "isinstance" p) [e, .Name y p2] [] pos) (tE X B G₀ (isxF cs fe)) := by
 refine pd_of (pe_callB (cr_isx (cV := .ty T) (cv := .type T) (fun u r => r) hT) hg hm PyProof.Rows.boot_isinstance (pa_cons ha (pa_cons (pe_bltn (v := .ty T) hg2 hm2 hv2 rfl hn2 hd2) pa_nil) hs1) (by decide) (by decide) hs1) fun σ H G δ Q R hw => ?_
 refine ⟨G, δ, R, Rs.wp.mono (isx_done (cV := .ty T) R hw) (fun _ x => x) fun d q v H1 G1 e1 i1 => ?_⟩
 obtain ⟨c, z1, z2, z3⟩ := q v H1 G1 e1 i1
 exact ⟨v, c, rfl, z1, z2, z3⟩
variable {iter c : Expr} {sts : List Stmt} {f : FA} {F : FS} {gc : FT}
theorem q_forX {tgt : Expr} {g : TG} {tg : D → DS → Option DS} (hp : X.Ok → PassesOwn (model X.prog X.w) X.A X.env X.xe) (hc : X.calm = true) (hi : PI X tgt iter (tI X B G₀ f)) (hg : PG X tgt g) (ht : TgD X B g tg) (hb : ∀ G₀, PSs X sts (tS X B G₀ F))
  (hs : ∀ x, foldedSetIterable iter X.env x = pure x := by intro _; rfl) : PS X (.For tgt iter sts [] pos) (tS X B G₀ (forS f tg F)) := fun pins s σ H D I hw => q_for (hp I.ok) hc hi hg ht hb hs pins s σ H D I hw
end
@[simp] theorem thn_exc (c : Str) (δ : DS) (F : FS) : (Out.exc c δ).thn F = .exc c δ := nodef rfl
@[simp] theorem s_isxR (cs : List Str) (c : Str) : isxR cs (.exn c) = if c ∈ cs then .ok (.bl true) else .bad := nodef rfl
@[simp] theorem s_isxF (cs : List Str) (fe : FE) (δ : DS) : isxF cs fe δ = (fe δ >>= isxR cs) := nodef rfl
end M

set_option Elab.async false
set_option linter.all false
set_option maxRecDepth 100000
set_option maxHeartbeats 4000000
namespace M
open PySem PySem.Spec PyProof.Rows L2
set_option autoImplicit false

noncomputable def FreshL (K : PySem.W.Frag) (H G : Hp) (ds : List D) (Q : VK) : Prop := ∀ a xs H' G', Ext H G H' G' → H a = none → H' a = some (.lst xs) → G' a = none → xs.length ≤ sizeLine → IsL K G' ds xs → Q (.ref a) H'
noncomputable def spO (K : PySem.W.Frag) (g : List D → Rs (List D)) (n : Nat) : Sp := fun vs H Q _ => ∃ G ds, Same G H ∧ IsL K G ds vs ∧ ds.length = n ∧ (g ds).wp (fun _ => False) fun es => FreshL K H G es Q
structure FnO (P : Program) (w : World) (K : PySem.W.Frag) (mg : Str → Option Value) (base : Heap) (x : Str) (k n : Nat) (g : List D → Rs (List D)) : Prop where
 ex : ∃ (f : Addr) (fd : FuncData) (ps : List Str), FnOk P w K mg base CX0 k f fd ps (spO K g n) ∧ Binds K fd ps [] ∧ mg x = some (.ref f) ∧ PySem.W.keepIn K (.ref f) = true
 len : ∀ ds, ds.length ≠ n → g ds = .bad
 ne : ∀ ds c, g ds ≠ .exc c
section
variable {X : Cx} {B G₀ : Hp} {e : Expr} {es : List Expr} {f : FA} {fr : FA} {F1 : FS} {x : Str} {p pos pos' : Pos} {st : Stmt} {rest : List Stmt} {k n : Nat}
end
section
variable {P : Program} {w : World} {K : PySem.W.Frag} {mg : Str → Option Value} {base : Heap}
end
end M

set_option Elab.async false
set_option linter.all false
set_option maxRecDepth 100000
set_option maxHeartbeats 4000000
namespace M
open PySem PySem.Spec PyProof.Rows L2
set_option autoImplicit false

noncomputable def compX (elt : D → Rs D) : List D → Rs (List D)
 | [] => .ok []
 | d :: ds => elt d >>= fun e => compX elt ds >>= fun r => .ok (e :: r)
noncomputable def bigX (ds : List D) (r : Rs (List D)) : Rs D := if ds.length ≤ 1000000 then r >>= fun es => .ok (.lst es) else .bad
theorem compX_ok {elt : D → Rs D} : ∀ {ds r : List D}, compX elt ds = .ok r → compL elt (fun _ => .ok true) ds = .ok r
 | [], r, h => h
 | d :: ds, r, h => by
  unfold compX at h
  unfold compL
  cases q : elt d with
  | exc c => rw [q] at h; cases h
  | bad => rw [q] at h; cases h
  | ok e =>
   rw [q, ok_bind] at h
   cases q2 : compX elt ds with
   | exc c => rw [q2] at h; cases h
   | bad => rw [q2] at h; cases h
   | ok r2 =>
    rw [q2, ok_bind] at h
    cases h
    simp only [compX_ok q2]
theorem noteFrame_env {e : Value} {env env' : Env} (h : env.frame = env'.frame) : noteFrame e env = noteFrame e env' := by
 unfold noteFrame PySem.frameOf
 rw [h]
theorem funFrames_less {h b b' : Heap} (k : ∀ a, b.get? a = none → b'.get? a = none) : ∀ {l : List Env}, h.FunFrames b l → h.FunFrames b' l
 | [], _ => trivial
 | env :: _, ⟨hk, ⟨L, o, hf, hn, ho, hd⟩, hr⟩ => ⟨hk, ⟨L, o, hf, k L hn, ho, hd⟩, funFrames_less k hr⟩
theorem hide_none {h : Heap} {C b : Addr} (e : h.get? b = none) : (h.hide C).get? b = none := by
 cases q : (h.hide C).get? b with
 | none => rfl
 | some o => rw [Heap.of_hide q] at e; cases e
theorem FunFrames_keep {h h' b : Heap} : ∀ {l : List Env}, h.FunFrames b l → (∀ a ∈ frs l, h'.get? a = h.get? a) → h'.FunFrames b l
 | [], _, _ => trivial
 | env :: r, ⟨hk, ⟨L, o, hf, hn, ho, hd⟩, hr⟩, k => ⟨hk, ⟨L, o, hf, hn, (k L (List.mem_filterMap.mpr ⟨env, .head _, hf⟩)).trans ho, hd⟩, FunFrames_keep hr fun a ha => k a (by
   obtain ⟨e, he, hf'⟩ := List.mem_filterMap.mp ha
   exact List.mem_filterMap.mpr ⟨e, .tail _ he, hf'⟩)⟩
theorem isX_off {X : Cx} {H : Hp} {s : Shared} {e Cc C : Addr} {Bk : Heap} {H' : Hp} {h1 h2 : Heap} {t : Addr} {fl : Value} (hok0 : HOk X.prog X.w H' Bk) (hCn : H C = none) {oC : Obj} (hC : s.heap.get? C = some oC) (hCd : ∀ vs, oC.data ≠ .fields vs) (hCf : C ∉ frs X.stack)
  (w1 : Bk.StaysIn h1) (w3 : h1.FunFrames Bk X.stack) (w4 : h1.TracedAtW Bk e (.ref Cc) (.ref t) fl)
  (hu : UnB (frs X.stack) H H' s.heap Bk h1) (sb : Heap.SameBut C h1 h2) : (Bk.hide C).StaysIn h2 ∧ h2.FunFrames (Bk.hide C) X.stack ∧ h2.TracedAtW (Bk.hide C) e (.ref Cc) (.ref t) fl ∧ HOk X.prog X.w H' (Bk.hide C) ∧ UnB (frs X.stack) H H' (s.heap.hide C) (Bk.hide C) h2 := by
 have hBC : Bk.get? C = some oC := hu.keep C oC hC hCn hCf
 have hC1 : h1.get? C = some oC := w1 C oC hBC
 have hCn' : H' C = none := hu.free C oC hC hCn
 have st : (Bk.hide C).StaysIn h2 := fun b o q => by
  have hb : b ≠ C := fun z => by subst z; rw [Heap.hide_self] at q; cases q
  exact (sb.2 b hb).trans (w1 b o (Heap.of_hide q))
 have ff : h2.FunFrames (Bk.hide C) X.stack := by
  refine funFrames_less (fun a z => hide_none z) (FunFrames_keep w3 ?_)
  intro b hb
  exact sb.2 b fun z => hCf (z ▸ hb)
 have tr : h2.TracedAtW (Bk.hide C) e (.ref Cc) (.ref t) fl := by
  obtain ⟨oe, us, Tr, oTr, rs, x1, x2, x4, x5, x6, x7, x8, x9, x10⟩ := w4
  have ne : e ≠ C := fun z => by subst z; rw [x1] at hC1; cases hC1; exact hCd us x4
  have nT : Tr ≠ C := fun z => by subst z; rw [x8] at hC1; cases hC1; exact hCd rs x9
  exact ⟨oe, us, Tr, oTr, rs, (sb.2 e ne).trans x1, x2, x4, x5, hide_none x6, x7, (sb.2 Tr nT).trans x8, x9, x10⟩
 refine ⟨st, ff, tr, fun b ob q => ?_, fun b o q n hb => ?_, fun b o q n hb => ?_, fun b o q n => hu.free b o (Heap.of_hide q) n, hu.same⟩
 ·refine (hok0 b ob q).stay (fun x o hx z => (Heap.hide_ne Bk ?_).trans z) (fun _ z => z) fun _ _ z => z
  rintro rfl
  rcases hx with rfl | hx
  ·rw [hCn'] at q; cases q
  ·rw [hCn'] at hx; cases hx
 ·have hbC : b ≠ C := fun z => by subst z; rw [Heap.hide_self] at q; cases q
  exact (Heap.hide_ne Bk hbC).trans (hu.keep b o (Heap.of_hide q) n hb)
 ·obtain ⟨sl, z⟩ := hu.slot b o (Heap.of_hide q) n hb
  exact ⟨sl, (sb.2 b fun w => hCf (w ▸ hb)).trans z⟩
theorem passOn_any {Mo : Model} {A : Around} {E : Value → Shared → Prop} {s : Shared} {Bk : Heap} {l : List Env} {e C t : Addr} {fl : Value} {what : String} {env : Env} (w1 : Bk.StaysIn s.heap) (w3 : s.heap.FunFrames Bk l) (x : s.heap.TracedAtW Bk e (.ref C) (.ref t) fl)
  (hQ : ∀ h' fl', Bk.StaysIn h' → h'.FunFrames Bk l → h'.TracedAtW Bk e (.ref C) (.ref t) fl' → s.heap.UpToSlots h' → E (.ref e) { s with heap := h' }) : wpAny Mo A (PySem.passOn what (.ref e) env : Sem Value) (fun _ _ => False) E s := by
 obtain ⟨oe, vs, T, oT, ts, he, hcls, hd, h1, hnT, hTe, hT, hdT, h3⟩ := x
 have hsz3 : 3 < ts.size := (Array.getElem?_eq_some_iff.mp h3).1
 have oth : ∀ b, b ≠ T → (s.heap.update T (Obj.mapFields (·.setIfInBounds 3 (env.frame.elim Value.none fun f => rawInt f)))).get? b = s.heap.get? b := fun b z => Heap.get?_update_other _ _ (Ne.symm z)
 have nrc : ∀ b o, s.heap.get? b = some o → (∀ vs, o.data ≠ .fields vs) → b ≠ T := fun b o z nf q => by subst q; rw [hT] at z; cases z; exact nf ts hdT
 unfold PySem.passOn
 refine wpAny_bind (wpAny_field he hd h1 ?_)
 rw [if_neg (show ¬ ((Value.ref T == Value.none) = true) from by simp)]
 unfold setFlight
 refine wpAny_bind (wpAny_bind (wpAny_field he hd h1 ?_)); rw [if_pos (show (Value.ref T != Value.none) = true from by simp)]
 refine wpAny_setField hT hdT hsz3 (wpAny_throw (hQ _ (env.frame.elim Value.none fun f => rawInt f) (fun b o z => (oth b fun q => by subst q; rw [hnT] at z; cases z).trans (w1 b o z)) (w3.of_keeps fun b o z nf => ⟨o, (oth b (nrc b o z nf)).trans z, rfl⟩) ?_ fun b o z nf => ⟨o.slots, (oth b (nrc b o z nf)).trans z⟩))
 exact ⟨oe, vs, T, _, _, (oth e (Ne.symm hTe)).trans he, hcls, hd, h1, hnT, hTe, Heap.get?_update_self _ hT (Obj.isFreed_of_fields (Obj.data_mapFields hdT _)), Obj.data_mapFields hdT _, by simp [hsz3]⟩
inductive CompIX (X : Cx) (Y : Cx) (fp : List Addr) (tn : Nat → Heap → Prop) (inn : Option V → St) (cl : List D → Rs (List D)) (H2 G2 : Hp) (Dl : Addr) (ds : List D) (c : Str) (n : Nat) (s' : Shared) : Prop
 | mk (k : Nat) (vx : Option V) (H' G' : Hp) (ys : List V) (es : List D) (h1 : k ≤ ds.length) (h2 : n = ds.length - k) (h3 : Inv Y [] (inn vx) H' s') (h4 : tn k s'.heap) (h5 : ∀ b ∈ fp, H' b = none)
   (h6 : Ext H2 G2 H' G') (h7 : G' Dl = none) (h8 : H' Dl = some (.lst ys)) (h9 : IsL X.K G' es ys) (h10 : es.length ≤ k) (h11 : cl (ds.drop k) = .exc c)
theorem comp_exc {X : Cx} {B G₀ : Hp} {elt iter : Expr} {x : Str} {px : Pos} {scope sc : Scope} {N : List Str} {pos : Pos} {f : DS → Rs (List D)} {fe : DS → Rs D} (fr : List (Str × Nat)) (hok : compOk sc scope N x fr = true) (hsc : X.env.scope = sc) (hN : X.N = N) (hcalm : X.calm = true)
  (hst : X.stack = X.env :: X.outer) (hfm : X.env.frame = some X.env.locals)
  (hi : PI X (.Name x px) iter (tI X B G₀ f)) (he : ∀ C s₀ H₀ fp E B' G', PE ((compCx X scope x fr C s₀ H₀ fp).wish E) elt (tE ((compCx X scope x fr C s₀ H₀ fp).wish E) B' G' fe))
  (hs : ∀ x, foldedSetIterable iter X.env x = pure x)
  {use : Option (Value → Sem Unit)} {Post : Value → Shared → Prop} {pins : List (Addr × Obj)} {s : Shared} {σ : St} {H G : Hp} {δ : DS} {ds : List D} {c : Str} (I : Inv X pins σ H s) (R : Rel X B G₀ σ H G δ)
  (hds : f δ = .ok ds) (hlen : ds.length ≤ 1000000) (hc : compX (fun d => fe (innerD δ fr (some (.v d)))) ds = .exc c) (hw : Xo X c σ H G) :
  wpAny (model X.prog X.w) X.A (comprehension (.ListComp elt [⟨.Name x px, iter, [], 0⟩] scope pos) scope X.env (firstIterPos [⟨.Name x px, iter, [], 0⟩] pos) (newList []) (firstAsync [⟨.Name x px, iter, [], 0⟩]) (firstIter [⟨.Name x px, iter, [], 0⟩] X.env) use) Post X.xe s := by
 subst hsc; subst hN
 have cO := CompOk.of hok
 have hfree : ∀ y ∈ scope.names, y.2 = .free → ∃ d, X.env.cells.lookup y.1 = some d := fun y hy e => I.ok.has y.1 (cO.free y hy e)
 refine wpAny_comprehension_free (use := use) rfl hs (closureFor_cl hfree) cO.kind cO.loc ?_
 show wpAny (model X.prog X.w) X.A (eval iter X.env) _ X.xe s
 refine thn (hi pins s σ H (fun J H2 => ∃ G2, Ext H G H2 G2 ∧ ItD X J ds G2) I ⟨G, δ, R, by rw [hds]; exact fun J H2 G2 e2 hJ => ⟨G2, e2, hJ⟩⟩) fun v1 s1 h1 => thn h1 fun itv s2 h2 => ?_
 obtain ⟨it, fp, tn, J, H2, e, I2, T, st2, f2, G2, e2, hJ⟩ := h2
 subst e
 refine wpAny_newObj_type ?_ (Nat.zero_le _)
 -- the new list
 generalize hD : s2.heap.objs.size = Dl
 have I3 : Inv X pins σ (upd H2 Dl (.lst [])) { s2 with heap := s2.heap.push { cls := .type "list", dict := none, data := .seq ([] : List Value).toArray } } := by
  have := I2.lnew (ys := []) (its := []) (t' := s2.toks) .nil (Nat.zero_le _)
  rw [hD] at this
  exact this
 have hDn : H2 Dl = none := by rw [← hD]; exact I2.hok.fresh (Nat.le_refl _)
 generalize hs3 : ({ s2 with heap := s2.heap.push { cls := .type "list", dict := none, data := .seq ([] : List Value).toArray } } : Shared) = s3 at I3 ⊢
 have k23 : ∀ b o, s2.heap.get? b = some o → s3.heap.get? b = some o := fun b o e => by rw [← hs3]; exact Heap.get?_push_of_some _ e
 have f3 : ∀ b ∈ fp, FpOk X pins (upd H2 Dl (.lst [])) b := fun b hb => by
  obtain ⟨q0, q1, q2, q3, q4, q5⟩ := f2 b hb
  obtain ⟨o, ho, _⟩ := T.obj 0 _ st2 b hb
  refine ⟨?_, q1, q2, q3, q4, q5⟩
  rw [upd_ne (by rw [← hD]; exact Nat.ne_of_lt (Heap.lt_size ho))]
  exact q0
 have hfl : ∀ b ∈ fp, b < s3.heap.objs.size := fun b hb => by
  obtain ⟨o, ho, _⟩ := T.obj 0 _ st2 b hb
  exact Heap.lt_size (k23 b o ho)
 refine wpAny_newFunctionEnv cO.cell (by intro y hy; cases hy) (fun h' hns hsb => ?_) cO.kind
 have k34 : ∀ b o, s3.heap.get? b = some o → h'.get? b = some o := fun b o e => hsb.extBut b o (Nat.ne_of_lt (Heap.lt_size e)) (Heap.get?_push_of_some _ e)
 generalize hCd : s3.heap.objs.size = C at hns hsb
 show codeAny (model X.prog X.w) X.A (.compStart _ 0 (.ref it) (.ref Dl) (compEnvC scope (clOf X.env.cells scope.names []) C X.env)) _ _
 have IY : Inv (compCx X scope x fr C s3 (upd H2 Dl (.lst [])) fp) [] (innerS σ fr none) (upd H2 Dl (.lst [])) { s3 with heap := h', toks := s3.toks + ([] : List (Str × Value)).length } :=
  comp_ok cO I3 f3 hfl hCd.symm k34 rfl rfl hns
 have st4 : tn 0 h' := T.keep 0 _ _ st2 fun b hb o e => k34 b o (k23 b o e)
 generalize hs4 : ({ s3 with heap := h', toks := s3.toks + ([] : List (Str × Value)).length } : Shared) = s4 at IY ⊢
 have st4 : tn 0 s4.heap := by rw [← hs4]; exact st4
 have lt3 : ∀ b o, s3.heap.get? b = some o → b ≠ C := fun b o e => by rw [← hCd]; exact Nat.ne_of_lt (Heap.lt_size e)
 have hCst : C ∉ frs X.stack := fun hb => by
  obtain ⟨_, o, ho, _⟩ := I3.stack.mem hb
  exact lt3 C o ho rfl
 have loop : codeAny (model X.prog X.w) X.A (.compLoop (.ListComp elt [⟨.Name x px, iter, [], 0⟩] scope pos) 0 (.ref it) (.ref Dl) (compEnvC scope (clOf X.env.cells scope.names []) C X.env)) (compPost (model X.prog X.w) X.A X.xe use Post (.ref Dl) C) s4 := by
  refine comp_loop (CompIX X (compCx X scope x fr C s3 (upd H2 Dl (.lst [])) fp) fp tn (innerS σ fr) (compX fun d => fe (innerD δ fr (some (.v d)))) H2 G2 Dl ds c) ?_ ds.length
   ⟨0, none, _, G2, [], [], Nat.zero_le _, rfl, IY, st4, fun b hb => (f3 b hb).1, Ext.own e2.gh hDn, e2.gh.free hDn, upd_same, rfl, Nat.le_refl _, hc⟩
  rintro n s5 ⟨k, vx, H5, G5, ys, es, hk, rfl, I5, st5, fr5, e5, gD5, hD5, hL5, hz5, hr5⟩
  have f5 : ∀ {H' : Hp}, (∀ b ∈ fp, H' b = none) → ∀ {pins' : List (Addr × Obj)}, (∀ p ∈ pins', p.1 ∉ fp) → ∀ b ∈ fp, FpOk (compCx X scope x fr C s3 (upd H2 Dl (.lst [])) fp) pins' H' b := fun {H'} hn {pins'} hp b hb => by
   obtain ⟨q1, q2⟩ := IY.ok.exf b hb
   exact ⟨hn b hb, q1, IY.ok.exfs b hb, .inl hb, q2, fun p hp' z => hp p (by simpa [compCx] using hp') (z ▸ hb)⟩
  have nopins : ∀ p ∈ ([] : List (Addr × Obj)), p.1 ∉ fp := fun p hp => by cases hp
  obtain ⟨j1, j2⟩ := hJ H5 G5 e5.gg e5.gh
  by_cases hlt : k < ds.length
  ·have hd : ds[k]? = some ds[k] := List.getElem?_eq_getElem hlt
   obtain ⟨go, yl⟩ := j1 k _ hd
   rw [List.drop_eq_getElem_cons hlt] at hr5
   refine wpAny_mono (T.item (compCx X scope x fr C s3 (upd H2 Dl (.lst [])) fp) rfl rfl rfl hcalm k [] s5 _ H5 (fun _ _ => False) I5 (f5 fr5 nopins) st5 go) (fun r s6 ⟨u, hr, h6⟩ => ?_) fun _ _ z => z.elim
   subst hr
   refine wpAny_mono h6 (fun _ s7 ⟨xv, H7, I7, r7, y7, st7, fr7⟩ => ?_) fun _ _ z => z.elim
   obtain ⟨G7, e7, i7⟩ := yl xv H7 y7
   have I7' := I7.pinned (f5 fr7 nopins) (T.obj _ _ st7)
   have hg : PG (compCx X scope x fr C s3 (upd H2 Dl (.lst [])) fp) (.Name x px) (gName 0) := pg_name cO.nd rfl (.inl (lookup_relabel_local cO.hx)) (.inr (lookup_relabel_local cO.hx))
   refine wpAny_mono (hg _ s7 _ H7 xv u (fun σ' H' => σ' = innerS σ fr (some xv) ∧ H' = H7) I7' r7 ⟨by simp [innerS], rfl⟩) (fun _ s8 ⟨σ8, H8, I8, hσ8, hH8⟩ => ?_) fun _ _ z => z.elim
   subst hσ8; subst hH8
   have R8 := rel_inner (X := X) (Y := compCx X scope x fr C s3 (upd H2 Dl (.lst [])) fp) rfl (R.mono e2) (e5.gg.trans e7.gg) e7.gh fr i7
   have keepD : ∀ {Ha Ga Hb Gb : Hp}, Ext Ha Ga Hb Gb → Ga Dl = none → (∃ o, Ha Dl = some o) → Gb Dl = none := fun {Ha Ga Hb Gb} e g ⟨o, h⟩ => by
    cases q : Gb Dl with
    | none => rfl
    | some z =>
     rcases e.new Dl z q with w | w
     ·rw [g] at w; cases w
     ·rw [h] at w; cases w
   have e57 := e5.trans e7
   have gD7 := keepD e7 gD5 ⟨_, hD5⟩
   have hD7 := e7.hh _ _ hD5
   refine wpAny_tests_nil ?_
   show wpAny (model X.prog X.w) X.A (eval elt (compEnvC scope (clOf X.env.cells scope.names []) C X.env)) (CTn.add _) (CTn.e _) s8
   unfold compX at hr5
   cases qe : fe (innerD δ fr (some (.v ds[k]))) with
   | bad => rw [qe] at hr5; cases hr5
   | ok ev =>
    rw [qe, ok_bind] at hr5
    have hr5 : compX (fun d => fe (innerD δ fr (some (.v d)))) (ds.drop (k + 1)) = .exc c := by
     cases q : compX (fun d => fe (innerD δ fr (some (.v d)))) (ds.drop (k + 1)) with
     | ok r => rw [q] at hr5; cases hr5
     | bad => rw [q] at hr5; cases hr5
     | exc c' => rw [q] at hr5; exact hr5
    refine wpAny_mono (he C s3 (upd H2 Dl (.lst [])) fp (fun _ _ => False) (fun _ => none) G7 _ s8 _ H8 (fun v H' => ∃ G', Ext H8 G7 H' G' ∧ Is X.K G' ev v) (I8.wish _) ⟨G7, _, R8.cx, ?_⟩) (fun yv s10 ⟨v10, H10, I10w, r10, G10, e10, i10⟩ => ?_) fun _ _ z => z.elim
    ·rw [qe]; exact fun v H' G' e i => ⟨G', e, i⟩
    have I10 := I10w.unwish
    have hD10 := e10.hh _ _ hD7
    have gD10 := keepD e10 gD7 ⟨_, hD7⟩
    have hl10 : ys.length < sizeLine := by
     have := hL5.length
     have h1 : (1000000 : Nat) < sizeLine := by decide
     omega
    refine wpAny_mono (mt_append (X := compCx X scope x fr C s3 (upd H2 Dl (.lst [])) fp) _ s10 _ H10 (.ref Dl) [v10] (.ref Dl) [yv] (fun _ H' => H' = upd H10 Dl (.lst (ys ++ [v10]))) I10 rfl (.cons r10 .nil) ⟨Dl, ys, v10, rfl, rfl, hD10, hl10, rfl⟩) (fun _ s11 ⟨_, H11, I11, _, hH11⟩ => ?_) fun _ _ z => z.elim
    subst hH11
    have e210 := e57.trans e10
    have e11 : Ext H2 G2 (upd H10 Dl (.lst (ys ++ [v10]))) G10 := ⟨fun b o q => by rw [upd_ne (ne_of_none q hDn)]; exact e210.hh b o q, e210.gg, fun b o q => by rw [upd_ne (ne_of_none q gD10)]; exact e210.gh b o q, e210.new⟩
    refine ⟨ds.length - (k + 1), by omega, k + 1, some xv, _, G10, ys ++ [v10], es ++ [ev], hlt, rfl, I11.unpinned, T.keep _ _ _ st7 fun b hb o e => (I11.pin (b, o) (List.mem_append_right _ (List.mem_append_right _ (mem_pinsAt hb e)))).1, fun b hb => ?_, e11, gD10, upd_same, (hL5.same (e7.gg.trans e10.gg)).append (IsL.one i10), ?_, hr5⟩
    ·obtain ⟨o, e, d⟩ := T.obj _ _ st7 b hb
     exact (I11.pin (b, o) (List.mem_append_right _ (List.mem_append_right _ (mem_pinsAt hb e)))).2.1
    ·rw [List.length_append]; simp only [List.length_singleton]; omega
   | exc c' =>
    rw [qe] at hr5
    have : c' = c := by cases hr5; rfl
    subst this
    refine wpAny_mono (he C s3 (upd H2 Dl (.lst [])) fp (fun ev s'' => ∃ pins' H' G' s', Ext H8 G7 H' G' ∧ Inv (compCx X scope x fr C s3 (upd H2 Dl (.lst [])) fp) pins' (innerS σ fr (some xv)) H' s' ∧ IsX X c' H' G' s' ev s'') (fun _ => none) G7 _ s8 _ H8 (fun _ _ => False) (I8.wish _) ⟨G7, _, R8.cx, ?_⟩) (fun yv s10 ⟨v10, H10, I10w, r10, z⟩ => z.elim) fun ev s10 hE => ?_
    ·rw [qe]; exact fun pins' s' H' G' ev e I' s'' x => ⟨pins', H', G', s', e, I'.unwish, x⟩
    obtain ⟨pins', H9, G9, s9, e9, I9, e0, Cc, Bk, Hx, Gx, rfl, hm, hx, fl, ho, hbr, hok9, hnf, hu⟩ := hE
    obtain ⟨hp1, g1, d1, t1, o1⟩ := s10
    have ho : o1 = s9.os := ho
    subst ho
    have hfr : X.A.frames = some (X.env :: X.outer) := by rw [← hst]; exact I.ok.frames
    have fl' : Fl Bk (X.env :: X.outer) e0 Cc hp1 := by rw [← hst]; exact fl
    have hmem : ∀ b ∈ frs X.stack, b ∈ frs (X.env :: X.outer) := by rw [hst]; exact fun _ z => z
    show wpAny (model X.prog X.w) X.A (noteFrame (.ref e0) (compEnvC scope (clOf X.env.cells scope.names []) C X.env)) _ _ _
    rw [noteFrame_env (env := compEnvC scope (clOf X.env.cells scope.names []) C X.env) (env' := X.env) rfl]
    refine fl_note hfr hfm fl' fun h10 t hh up => ?_
    have u1 := hu.slots fl'.frames.1 hmem up
    obtain ⟨m9, hn9, _⟩ := id I9.loc
    have hn9 : s9.heap.Ns C m9 := hn9
    have hC9 : H9 C = none := I9.free
    obtain ⟨oC, esC, epC, q1, q2, q3⟩ := id hn9
    have hBC := u1.keep C oC q1 hC9 hCst
    have I7b : Inv X pins σ H9 s9 := I3.call' (s' := s9) I9.os I9.base I9.hok I9.bare fun b hb => by
     obtain ⟨q0, q1, q2, q3, q4, q5⟩ := f3 b hb
     exact ⟨q3, q1, q4, q5⟩
    have cok : COk X pins H9 C := by
     refine ⟨Nat.le_trans I3.sz (Nat.le_of_eq hCd), ?_, fun y c hc => ?_, fun p hp => ?_, hC9⟩
     ·obtain ⟨m3, hm3, _⟩ := I3.loc
      rw [← hCd]; exact Nat.ne_of_gt hm3.lt
     ·obtain ⟨w, hc3⟩ := I3.cell y c hc
      obtain ⟨o, ho, _⟩ := hc3
      exact lt3 c o ho
     ·exact lt3 p.1 p.2 (I3.pin p hp).1
    have Iref : Inv X pins σ H9 { s9 with heap := s9.heap.hide C } := inv_offC I7b cok ⟨Heap.hide_size _ _, fun b hb => Heap.hide_ne _ hb⟩
    refine ⟨m9, ⟨oC, esC, epC, hh.1 C oC hBC, q2, q3⟩, fun h11 sb cenv _ => ?_⟩
    obtain ⟨v1, v2, v3, v4, v5⟩ := isX_off (X := X) (s := s9) hok9 hC9 q1 (fun vs z => by rw [q2] at z; cases z) hCst hh.1 (by rw [hst]; exact hh.2.2.1) hh.2.2.2 u1 sb
    refine passOn_any (s := ⟨h11, g1, d1, t1, s9.os⟩) v1 v2 v3 fun h12 fl' y1 y2 y3 up' => ?_
    exact hw pins { s9 with heap := s9.heap.hide C } H9 G9 (.ref e0) ((e2.trans e57).trans e9) Iref _ ⟨e0, Cc, Bk.hide C, Hx, Gx, rfl, hm, hx, .inl ⟨t, fl', y1, hide_none hh.2.1, y2, y3⟩, rfl, hbr, v4, hnf, v5.slots v2 (fun _ z => z) up'⟩
  ·exfalso
   have hkl : k = ds.length := by omega
   subst hkl
   rw [List.drop_length] at hr5
   cases hr5
 exact codeAny_compStart_list loop (T.self X.A 0 s4 _ _ st4 loop)
noncomputable def compFX (fr : List (Str × Nat)) (f : FA) (fe : FE) : FE := fun δ => f δ >>= fun ds => bigX ds (compX (fun d => fe (innerD δ fr (some (.v d)))) ds)
theorem q_compX {X : Cx} {B G₀ : Hp} {elt iter : Expr} {x : Str} {px : Pos} {scope sc : Scope} {N : List Str} {pos : Pos} {f : FA} {fe : FE} (fr : List (Str × Nat)) (hok : compOk sc scope N x fr = true) (hsc : X.env.scope = sc) (hN : X.N = N) (hcalm : X.calm = true)
  (hi : PI X (.Name x px) iter (tI X B G₀ f)) (he : ∀ C s₀ H₀ fp E B' G', PE ((compCx X scope x fr C s₀ H₀ fp).wish E) elt (tE ((compCx X scope x fr C s₀ H₀ fp).wish E) B' G' fe))
  (hs : ∀ x, foldedSetIterable iter X.env x = pure x := by intro _; rfl) (hst : X.stack = X.env :: X.outer := by rfl) (hfm : X.env.frame = some X.env.locals := by rfl) :
  PE X (.ListComp elt [⟨.Name x px, iter, [], 0⟩] scope pos) (tE X B G₀ (compFX fr f fe)) := by
 intro pins s σ H Q I ⟨G, δ, R, hw⟩
 have plain := pd_comp (pos := pos) (gt := fun _ => .ok true) fr hok hsc hN hcalm hi .nil (fun C s₀ H₀ fp B' G' => he C s₀ H₀ fp (fun _ _ => False) B' G') hs pins s σ H Q I
 unfold compFX W at hw
 cases hd : f δ with
 | exc c => exact plain ⟨G, δ, R, by dsimp only; rw [hd] at hw ⊢; exact hw⟩
 | bad => rw [hd] at hw; exact hw.elim
 | ok ds =>
  rw [hd, ok_bind] at hw
  unfold bigX at hw
  by_cases hl : ds.length ≤ 1000000
  ·rw [if_pos hl] at hw
   cases hc : compX (fun d => fe (innerD δ fr (some (.v d)))) ds with
   | bad => rw [hc] at hw; exact hw.elim
   | ok r =>
    refine plain ⟨G, δ, R, ?_⟩
    rw [hc, ok_bind] at hw
    dsimp only
    rw [hd, ok_bind]
    unfold bigR
    rw [if_pos hl, compX_ok hc]
    exact hw
   | exc c =>
    rw [hc] at hw
    rw [eval_ListComp]
    exact comp_exc fr hok hsc hN hcalm hst hfm hi he hs I R hd hl hc hw
  ·rw [if_neg hl] at hw; exact hw.elim
end M

set_option Elab.async false
set_option linter.all false
set_option maxRecDepth 100000
set_option maxHeartbeats 4000000
namespace M
open PySem PySem.Spec PyProof.Rows L2
set_option autoImplicit false

end M

set_option Elab.async false
set_option linter.all false
set_option maxRecDepth 100000
set_option maxHeartbeats 4000000
namespace M
open PySem PySem.Spec PyProof.Rows L2
set_option autoImplicit false

section
variable {X : Cx} {B G₀ : Hp} {o e : Expr} {es : List Expr} {fo fe : FE} {fr : FA} {name : Str} {id : String} {p pos apos : Pos}
end
end M

set_option Elab.async false
set_option linter.all false
set_option maxRecDepth 100000
set_option maxHeartbeats 4000000
namespace M
open PySem PySem.Spec PyProof.Rows L2
set_option autoImplicit false

section
variable {X : Cx} {B G₀ : Hp} {pins : List (Addr × Obj)} {σ : St} {H G : Hp} {s : Shared} {δ : DS}
end
section
variable {X : Cx} {B G₀ : Hp} {F1 F2 : FS} {cls en : Str} {np hpos pos : Pos} {body suite : List Stmt} {b₀ : Stmt} {cs : List Str}
end
end M

set_option Elab.async false
set_option linter.all false
set_option maxRecDepth 100000
set_option maxHeartbeats 4000000
namespace M
open PySem PySem.Spec PyProof.Rows L2
set_option autoImplicit false
open PySem.Builtin.Getset_descriptor PySem.Builtin.ObjectAttr

structure ExnK (K : PySem.W.Frag) (C : Addr) : Prop where
 ob : PySem.W.mroIn K C (.type "object") = some true
 be : PySem.W.mroIn K C (.type "BaseException") = some true
 ga : PySem.W.findIn K (.ref C) "__getattribute__" = some (some (.builtin "BaseException.__getattribute__"))
 gn : PySem.W.findIn K (.ref C) "__getattr__" = some none
 cl : PySem.W.findIn K (.ref C) "__class__" = some (some (.builtin "object.__class__"))
 ty : (PySem.W.clsIn K C).isSome = true
section
variable {prog : Program} {w : World} {A : Around} {E : Value → Shared → Prop} {K : PySem.W.Frag} {h : Heap} {g : Array GenState} {d : Drawn} {t : Nat} {os : OsState} {a C : Addr}
theorem exn_get {R : Result → Shared → Prop} {tp : Value} (X : K.In h) (k : ExnK K C) (L0 : PySem.W.Looks (model prog w) h (typeOf (.ref a)) (.ref C)) (hq : R (.ok (.ret (.ref C))) ⟨h, g, d, t, os⟩) :
  codeAny (model prog w) A (.call (.builtin "getset_descriptor.__get__") ⟨[.builtin "object.__class__", .ref a, tp], []⟩) R ⟨h, g, d, t, os⟩ := by
 have L1 := PySem.W.looks_mroIn (M := model prog w) X k.ob
 refine codeAny_call_builtin PySem.W.KF.slot_gs.plain PySem.W.KF.entry_gs (PySem.W.KF.slot_gs.check _ _ _ _ _ _ _ _ PySem.W.KF.type_class (PySem.W.KF.args_gs _ _ _) ?_)
 unfold Builtin.«getset_descriptor.__get__» descrGet; rw [PySem.W.dga_obj]
 refine wpAny_bind (wpAny_pure ?_)
 unfold descrGetter descrCheckInstance descrNameAndClass isInstance; simp only [PySem.W.KF.owner_class]
 repeat lk
 refine ⟨Code.quiet_builtin _ (by decide +kernel), codeAny_builtin PySem.W.KF.entry_class ?_⟩
 unfold Builtin.«object.__class__» shownTypeOf; repeat lk
 exact hq
theorem exn_entry {tk : Tok} {Q : Fin → Shared → Prop} (X : K.In h) (k : ExnK K C) (L0 : PySem.W.Looks (model prog w) h (typeOf (.ref a)) (.ref C)) (hq : Q (.done (.ret (.ref C))) ⟨h, g, d, t, os⟩) :
  wpAny (model prog w) A (Builtin.«object.__getattribute__» ⟨[.ref a, .str "__class__" tk], []⟩) Q E ⟨h, g, d, t, os⟩ := by
 have L1 := PySem.W.looks_findIn (M := model prog w) X k.cl
 have hT5 : (⟨h, g, d, t, os⟩ : Shared).TypeIs (.builtin "object.__class__") "getset_descriptor" := F.typeOf_object_class
 have f5 := F.typeOf_object_class
 have f6 := F.slot_gs_get.lookup
 have f7 := F.slot_gs_set.lookup
 repeat (any_goals (first | assumption | (with_reducible refine L0.at ?_) | (with_reducible refine L1.at ?_) | wp_step))
 refine exn_get X k L0 ?_
 repeat (any_goals (first | assumption | wp_step))
theorem exn_check {nv : Value} {Q : Unit → Shared → Prop} (X : K.In h) (k : ExnK K C) (L0 : PySem.W.Looks (model prog w) h (typeOf (.ref a)) (.ref C)) (hq : Q () ⟨h, g, d, t, os⟩) : wpAny (model prog w) A (checkBuiltinCall "BaseException.__getattribute__" ⟨[.ref a, nv], []⟩) Q E ⟨h, g, d, t, os⟩ := by
 have hk : builtinKind "BaseException.__getattribute__" = some .slot := by decide +kernel
 have hp : splitId "BaseException.__getattribute__" = some ("BaseException", "__getattribute__") := by decide +kernel
 have ha := F.args_bexc_ga (.ref a) nv
 have L1 := PySem.W.looks_mroIn (M := model prog w) X k.be
 simp only [checkBuiltinCall, hk, hp]
 refine wpAny_bind ?_
 unfold isInstance
 repeat (first | (with_reducible refine L0.at ?_) | (with_reducible refine L1.at ?_) | wp_step)
 exact hq
theorem exn_call {tk : Tok} {R : Result → Shared → Prop} (X : K.In h) (k : ExnK K C) (L0 : PySem.W.Looks (model prog w) h (typeOf (.ref a)) (.ref C)) (hq : R (.ok (.ret (.ref C))) ⟨h, g, d, t, os⟩) :
  codeAny (model prog w) A (.call (.builtin "BaseException.__getattribute__") ⟨[.ref a, .str "__class__" tk], []⟩) R ⟨h, g, d, t, os⟩ :=
 codeAny_call_builtin PySem.F.attrBase_ValueError.ga.plain F.entry_bexc_ga (exn_check X k L0 (exn_entry X k L0 hq))
theorem exn_by {tk : Tok} {Q : Value → Shared → Prop} (X : K.In h) (k : ExnK K C) (L0 : PySem.W.Looks (model prog w) h (typeOf (.ref a)) (.ref C)) (hq : Q (.ref C) ⟨h, g, d, t, os⟩) : wpAny (model prog w) A (getAttrBy (.ref a) (.str "__class__" tk) false) Q E ⟨h, g, d, t, os⟩ := by
 have f3 := PySem.F.attrBase_ValueError.ga.bind (.ref a)
 have LG := PySem.W.looks_findIn (M := model prog w) X k.ga
 have LN := PySem.W.looks_findIn (M := model prog w) X k.gn
 have hx2 : (Value.builtin "BaseException.__getattribute__" == Value.builtin "object.__getattribute__") = false := by decide +kernel
 have hx1 : (onTheHeap (Value.ref C) && Value.builtin "BaseException.__getattribute__" == Value.builtin "object.__getattribute__") = false := by rw [hx2]; rfl
 repeat (any_goals (first | assumption | (with_reducible refine L0.at ?_) | (with_reducible refine LG.at ?_) | (with_reducible refine LN.at ?_) | wp_step))
 refine exn_call X k L0 ?_
 repeat (any_goals (first | assumption | wp_step))
theorem exn_attr {Q : Option Value → Shared → Prop} (X : K.In h) (k : ExnK K C) (L0 : PySem.W.Looks (model prog w) h (typeOf (.ref a)) (.ref C)) (hq : Q (some (.ref C)) ⟨h, g, d, t + 1, os⟩) : wpAny (model prog w) A (getAttr? (.ref a) "__class__") Q E ⟨h, g, d, t, os⟩ := by
 unfold getAttr? getAttrBy?
 repeat (any_goals (first | assumption | with_reducible apply exn_by X k L0 | wp_step))
theorem exn_kit {e C : Addr} (k : ExnK K C) : PySem.W.KitX K (.ref e) (.ref C) (fun h => ∃ o, h.get? e = some o ∧ o.cls = .ref C) where
 ty := fun M h _ ⟨o, z1, z2⟩ => z2 ▸ (PySem.W.Looks.ld z1).andThen .now
 it := fun _ _ X _ => by
  obtain ⟨cd, hc⟩ := Option.isSome_iff_exists.mp k.ty
  unfold PySem.W.clsIn at hc
  split at hc
  ·rename_i ho
   intro A' Q' E' s' kp q; unfold isType loadHead
   exact wpAny_bind (wpAny_loadPart (kp _ _ (X _ _ ho)) (wpAny_pure q))
  ·cases hc
 ne := fun h tp dd its n sl X htp => Bool.eq_false_iff.mpr fun q => by
  obtain ⟨cd, hc⟩ := Option.isSome_iff_exists.mp k.ty
  have e : C = tp := Value.ref.inj (beq_iff_eq.mp q)
  subst e
  unfold PySem.W.clsIn at hc
  split at hc
  ·rename_i ho
   have z := (X _ _ ho).symm.trans htp; cases z
  ·cases hc
 ca := fun {prog w A E Q s} X ⟨o, z1, z2⟩ q => by
  obtain ⟨h0, g0, d0, t0, os0⟩ := s
  exact exn_attr X k (z2 ▸ (PySem.W.Looks.ld z1).andThen .now) q
end
noncomputable def IsyK (K : PySem.W.Frag) (c : Str) (v : Value) (b : Bool) : Prop := ∃ C, PySem.W.nsIn K mainGlobals c = some (some (.ref C)) ∧ ExnK K C ∧ PySem.W.kitOne K (.ref C) v = some b
section
variable {X : Cx} {B G₀ : Hp} {e : Expr} {fe : FE} {cs : List Str} {p pos : Pos} {b : Bool}
end
end M

set_option Elab.async false
set_option linter.all false
set_option maxRecDepth 100000
set_option maxHeartbeats 4000000
namespace M
open PySem PySem.Spec PyProof.Rows L2
set_option autoImplicit false

end M

set_option Elab.async false
set_option linter.all false
set_option maxRecDepth 100000
set_option maxHeartbeats 4000000
namespace M
open PySem PySem.Spec PyProof.Rows L2
set_option autoImplicit false

section
variable {X : Cx}
end
end M

set_option Elab.async false
set_option linter.all false
set_option maxRecDepth 100000
set_option maxHeartbeats 4000000
namespace M
open PySem PySem.Spec PyProof.Rows L2
set_option autoImplicit false

noncomputable def keysD : List D → Option (List Key)
 | [] => some []
 | d :: ds => match keyD d with
  | some k => (keysD ds).map (k :: ·)
  | none => none
noncomputable def keyT : D → Option (List Key)
 | .tup ds => keysD ds
 | _ => none
section
variable {X : Cx} {B G₀ : Hp} {a b e : Expr} {es : List Expr} {fa fb fe : FE} {fr : FA} {pos pos' p p2 apos cpos : Pos} {x : Str}
end
noncomputable def idxK {κ : Type} [DecidableEq κ] : List κ → κ → Option Nat
 | [], _ => none
 | k :: ks, j => if k = j then some 0 else (idxK ks j).map (· + 1)
noncomputable abbrev Ch := List Key × List D
noncomputable def addCh (c : Ch) (k : Key) (v : D) : Ch := match valD c.1 c.2 k with
 | some _ => c
 | none => (c.1 ++ [k], c.2 ++ [v])
structure Erl (K : PySem.W.Frag) (B : Hp) (a : Addr) (ks : List (List Key)) (bs : List Addr) (cs : List Ch) (H G : Hp) : Prop where
 ha : H a = some (.dT (ks.zip (bs.map V.ref)))
 ga : G a = none
 ba : B a = none
 lk : ks.length = bs.length
 len : bs.length = cs.length
 el : ∀ (j : Nat) (b : Addr) (c : Ch), bs[j]? = some b → cs[j]? = some c → ∃ xs, H b = some (.dK (c.1.zip xs)) ∧ c.1.length = xs.length ∧ IsL K G c.2 xs ∧ G b = none ∧ B b = none
 nd : (a :: bs).Nodup
noncomputable def erl1 (ks : List (List Key)) (cs : List Ch) (k : List Key) (k2 : Key) (v : D) : Option (List (List Key) × List Ch) := match idxK ks k with
 | some j => match cs[j]? with
  | some c => if c.1.length < 1000000 then some (ks, cs.set j (addCh c k2 v)) else none
  | none => none
 | none => some (ks ++ [k], cs ++ [([k2], [v])])
noncomputable def erlO (i j : Nat) (f1 f2 f3 : FE) : List D → DS → List (List Key) → List Ch → Rs (DS × List (List Key) × List Ch)
 | [], δ, ks, cs => .ok (δ, ks, cs)
 | d :: ds, δ, ks, cs => match tgT i j d δ with
  | some δ1 => match f1 δ1 with
   | .ok d1 => match f2 δ1 with
    | .ok d2 => match f3 δ1 with
     | .ok d3 => match keyT d1 with
      | some k => match keyD d2 with
       | some k2 => if ks.length < 1000000 then (match erl1 ks cs k k2 d3 with
        | some r => erlO i j f1 f2 f3 ds δ1 r.1 r.2
        | none => .bad) else .bad
       | none => .bad
      | none => .bad
     | _ => .bad
    | _ => .bad
   | _ => .bad
  | none => .bad
end M

set_option Elab.async false
set_option linter.all false
set_option maxRecDepth 100000
set_option maxHeartbeats 4000000
namespace M
open PySem PySem.Spec PyProof.Rows L2
set_option autoImplicit false
inductive ErlI (X : Cx) (B G1 : Hp) (δe : DS) (r : List (List Key) × List Ch) (a : Addr) (g q i j : Nat) (f1 f2 f3 : FE) (ds : List D) (m : Nat) (σ : St) (H : Hp) : Prop
 | mk (G : Hp) (δ : DS) (ks : List (List Key)) (bs : List Addr) (cs : List Ch) (h1 : Rel X B G1 σ H G δ) (h2 : noOwn δ = true) (h3 : δ.length = δe.length) (h4 : σ[g]? = some (some (.ref a))) (h5 : Erl X.K B a ks bs cs H G)
  (h6 : ∀ x, δ[q]? ≠ some (some x)) (h7 : erlO i j f1 f2 f3 (ds.drop m) δ ks cs = .ok (δe, r))
section
variable {X : Cx} {B G₀ : Hp}
end
end M

set_option Elab.async false
set_option linter.all false
set_option maxRecDepth 100000
set_option maxHeartbeats 4000000
namespace M
open PySem PySem.Spec PyProof.Rows L2
set_option autoImplicit false
end M

set_option Elab.async false
set_option linter.all false
set_option maxRecDepth 100000
set_option maxHeartbeats 4000000
namespace M
open PySem PySem.Spec PyProof.Rows L2
open Sem (wp)
set_option autoImplicit false

noncomputable abbrev Nk := List Key × Key
section
variable {P : Program} {w : World}
noncomputable def IsNk (P : Program) (w : World) (h : Heap) (k : Nk) (a : Addr) : Prop := ∃ o b v n, h.get? a = some o ∧ o.cls = .type "tuple" ∧ o.data = .seq #[.ref b, v] n ∧ (tupleKind (mixKind P w)).is h k.1 b ∧ (mixKind P w).is k.2 v = true
theorem IsNk.typeIs {s : Shared} {k : Nk} {a : Addr} (x : IsNk P w s.heap k a) : s.TypeIs (.ref a) "tuple" := let ⟨o, _, _, _, ho, hc, _⟩ := x; ⟨o, ho, hc⟩
theorem IsNk.inj {h : Heap} {a : Addr} {x y : Nk} (hx : IsNk P w h x a) (hy : IsNk P w h y a) : x = y := by
 obtain ⟨o, b, v, n, ho, _, hd, h1, h2⟩ := hx
 obtain ⟨o', b', v', n', ho', _, hd', h1', h2'⟩ := hy
 obtain rfl : o = o' := Option.some.inj (ho.symm.trans ho')
 rw [hd] at hd'
 injection hd' with e1 _
 have e2 : [Value.ref b, v] = [Value.ref b', v'] := congrArg Array.toList e1
 injection e2 with e3 e4
 injection e4 with e4 _
 injection e3 with e3
 subst e3; subst e4
 exact Prod.ext ((tupleKind (mixKind P w)).inj h1 h1') ((mixKind P w).inj _ _ _ h2 h2')
theorem IsNk.keeps {h h' : Heap} {k : Nk} {a d : Addr} {o : Obj} {es ep} (x : IsNk P w h k a) (ho : h.get? d = some o) (hd : o.data = .dict es ep) (hs : Heap.SameBut d h h') : IsNk P w h' k a := by
 obtain ⟨o', b, v, n, ho', hc, hd', h1, h2⟩ := x
 have hne : a ≠ d := by
  rintro rfl
  obtain rfl : o' = o := Option.some.inj (ho'.symm.trans ho)
  rw [hd] at hd'; exact nomatch hd'
 exact ⟨o', b, v, n, (hs.2 a hne).trans ho', hc, hd', (tupleKind (mixKind P w)).keeps h1 ho hd hs, h2⟩
noncomputable def nkHash (P : Program) (w : World) (k : Nk) : Int := reduceHash (Builtin.Tuple.tupleHashOf [tupleKeyHash (mixKind P w) k.1, (mixKind P w).hash k.2])
variable {A : Around} {E : Value → Shared → Prop} {s : Shared}
theorem nk_pyHash {k : Nk} {a : Addr} {Q : Int → Shared → Prop} (hu : A.units + 8 < cLine) (hk : IsNk P w s.heap k a) (h : Q (nkHash P w k) { s with toks := s.toks + (k.1.length + 3) }) :
  wpAny (model P w) A (pyHash (.ref a)) Q E s := by
 have hT := hk.typeIs
 obtain ⟨o, b, v, n, ho, _, hd, h1, h2⟩ := hk
 unfold pyHash
 first | unfold pyHashByItsType | skip
 first | refine wpAny_bind (wpAny_cRoomFor_or (.inr (by omega)) ?_) | skip
 refine wpAny_bind (wpAny_specialOf hT F.slot_tuple_hash.lookup ?_)
 show wpAny _ _ (if (some (Value.builtin "tuple.__hash__") == some Value.none) = true then _ else _) Q E s
 rw [if_neg (by rw [beq_builtin_none]; exact Bool.false_ne_true)]
 refine wpAny_bind (wpAny_specialOf hT F.slot_tuple_hash.lookup ?_)
 show wpAny _ _ (callSpecialIfBoundUnlessNone? (.ref a) "__hash__" _ >>= _) Q E s
 refine wpAny_bind (wpAny_callSpecialIfBoundUnlessNone?_slot hT F.slot_tuple_hash (wpAny_call_entry F.slot_tuple_hash hT F.entry_tuple_hash ?_ (F.args_tuple_hash_1 _)))
 show wpAny _ _ (Builtin.Tuple.tupleItemsOf (.ref a) >>= _) _ _ s
 refine wpAny_bind (wpAny_tupleItemsOf ho hd ?_)
 refine wpAny_bind ?_
 rw [← Array.forIn_toList]
 refine wpAny_forIn_list _
  (fun rest (c : Array Int) s' => (rest = [.ref b, v] ∧ c.toList = [] ∧ s' = s) ∨ (rest = [v] ∧ c.toList = [tupleKeyHash (mixKind P w) k.1] ∧ s' = { s with toks := s.toks + (k.1.length + 1) }) ∨
   (rest = [] ∧ c.toList = [tupleKeyHash (mixKind P w) k.1, (mixKind P w).hash k.2] ∧ s' = { s with toks := s.toks + (k.1.length + 2) }))
  _ ?_ ?_ _ _ (.inl ⟨rfl, rfl, rfl⟩)
 ·rintro x rest c s' (⟨e, hc, rfl⟩ | ⟨e, hc, rfl⟩ | ⟨e, _, _⟩)
  ·injection e with e1 e2
   subst e1; subst e2
   refine wpAny_bind ((tupleKind (mixKind P w)).pyHash (tupleKind_room_in1 (by omega)) h1 ?_)
   first
    | exact wpAny_pure (.inr (.inl ⟨rfl, by simp [hc]; rfl, rfl⟩))
    | exact wpAny_bind (wpAny_pure (wpAny_pure (.inr (.inl ⟨rfl, by simp [hc]; rfl, rfl⟩))))
  ·injection e with e1 e2
   subst e1; subst e2
   refine wpAny_bind ((mixKind P w).pyHash h2 ?_)
   first
    | exact wpAny_pure (.inr (.inr ⟨rfl, by simp [hc], by simp [Nat.add_assoc]⟩))
    | exact wpAny_bind (wpAny_pure (wpAny_pure (.inr (.inr ⟨rfl, by simp [hc], by simp [Nat.add_assoc]⟩))))
  ·cases e
 ·rintro c s' (⟨e, _, _⟩ | ⟨e, _, _⟩ | ⟨_, hc, rfl⟩)
  ·cases e
  ·cases e
  ·show wpAny _ _ (retInt (Builtin.Tuple.tupleHashOf c.toList)) _ _ _
   rw [hc]
   refine wpAny_ret_mkInt ?_
   unfold nkHash reduceHash at h
   generalize Builtin.Tuple.tupleHashOf [tupleKeyHash (mixKind P w) k.1, (mixKind P w).hash k.2] = hh at h ⊢
   show wpAny _ _ (if (decide (-(2 : Int) ^ 63 ≤ hh) && decide (hh < 2 ^ 63)) = true then _ else _) Q E _
   by_cases hr : (decide (-(2 : Int) ^ 63 ≤ hh) && decide (hh < 2 ^ 63)) = true
   ·rw [if_pos hr] at h ⊢
    exact wpAny_pure (by simpa [Nat.add_assoc] using h)
   ·rw [if_neg hr] at h ⊢
    exact wpAny_bind (wpAny_rule (wpAny_pure (by simpa [Nat.add_assoc] using h)))
theorem nk_eq_tree {x y : Nk} {a b : Addr} {R : Fin → Shared → Prop} (hu : A.units + 4 < cLine) (hx : IsNk P w s.heap x a) (hy : IsNk P w s.heap y b) (h : R (.done (.ret (.bool (decide (x = y))))) s) :
  wpAny (model P w) A (Builtin.«tuple.__eq__» ⟨[.ref a, .ref b], []⟩) R E s := by
 have hTb := hy.typeIs
 obtain ⟨oa, b1, v1, na, hoa, _, hda, x1, x2⟩ := hx
 obtain ⟨ob, b2, v2, nb, hob, _, hdb, y1, y2⟩ := hy
 have hd : decide (x = y) = (decide (x.1 = y.1) && decide (x.2 = y.2)) := by
  rw [Bool.eq_iff_iff]; simp [Prod.ext_iff]
 rw [hd] at h
 show wpAny _ _ (isInstance (.ref b) (.type "tuple") >>= _) _ _ s
 refine wpAny_bind (wpAny_isInstance hTb isSubtype_tuple_tuple ?_)
 simp only [Bool.not_true, Bool.false_eq_true, if_false]
 refine wpAny_bind (wpAny_tupleItemsOf hoa hda ?_)
 refine wpAny_bind (wpAny_tupleItemsOf hob hdb ?_)
 refine wpAny_bind ?_
 refine wpAny_forIn_list _
  (fun rest r s' => r.1 = none ∧ s' = s ∧ (rest = [(.ref b1, .ref b2), (v1, v2)] ∨ (rest = [(v1, v2)] ∧ decide (x.1 = y.1) = true) ∨ (rest = [] ∧ decide (x.1 = y.1) = true ∧ decide (x.2 = y.2) = true)))
  _ ?_ ?_ _ _ ⟨rfl, rfl, .inl rfl⟩
 ·rintro ⟨u, v⟩ rest r s' ⟨hr, rfl, e | ⟨e, c1⟩ | ⟨e, _⟩⟩
  ·injection e with e1 e2
   injection e1 with e3 e4
   subst e2; subst e3; subst e4
   refine wpAny_bind ((tupleKind (mixKind P w)).eqBool (x := x.1) (y := y.1) (show A.units < cLine by omega) x1 y1 ?_)
   cases hc : decide (x.1 = y.1) with
   | true =>
    simp only [Bool.not_true, Bool.false_eq_true, if_false]
    exact wpAny_pure ⟨by first | rfl | trivial, by first | rfl | trivial, .inr (.inl ⟨by first | rfl | trivial, by first | rfl | trivial | exact hc⟩)⟩
   | false =>
    simp only [Bool.not_false, if_true]
    rw [hc] at h
    exact wpAny_bind (wpAny_pure (wpAny_pure (wpAny_pure h)))
  ·injection e with e1 e2
   injection e1 with e3 e4
   subst e2; subst e3; subst e4
   refine wpAny_bind ((mixKind P w).eqBool (a := x.2) (b := y.2) x2 y2 ?_)
   rw [c1] at h
   cases hc : decide (x.2 = y.2) with
   | true =>
    simp only [Bool.not_true, Bool.false_eq_true, if_false]
    exact wpAny_pure ⟨by first | rfl | trivial, by first | rfl | trivial, .inr (.inr ⟨by first | rfl | trivial, by first | exact c1 | trivial, by first | rfl | trivial | exact hc⟩)⟩
   | false =>
    simp only [Bool.not_false, if_true]
    rw [hc] at h
    exact wpAny_bind (wpAny_pure (wpAny_pure (wpAny_pure h)))
  ·cases e
 ·rintro ⟨r1, r2⟩ s' ⟨hr, rfl, e | ⟨e, c1⟩ | ⟨e, c1, c2⟩⟩
  ·cases e
  ·cases e
  ·simp only at hr
   subst hr
   refine wpAny_pure ?_
   rw [c1, c2] at h
   exact h
theorem nk_eqBool {x y : Nk} {a b : Addr} {Q : Bool → Shared → Prop} (hu : A.units + 8 < cLine) (hx : IsNk P w s.heap x a) (hy : IsNk P w s.heap y b) (h : Q (decide (x = y)) s) :
  wpAny (model P w) A (eqBool (.ref a) (.ref b)) Q E s := by
 unfold eqBool
 try with_reducible refine wpAny_holding ?_
 show wpAny _ _ (if (Value.ref a == Value.ref b) = true then _ else _) Q E s
 by_cases hab : (Value.ref a == Value.ref b) = true
 ·rw [if_pos hab]
  have e : a = b := by have := eq_of_beq hab; injection this
  subst e
  obtain rfl := hx.inj hy
  exact wpAny_bind (wpAny_rule (wpAny_pure (by simpa using h)))
 ·rw [if_neg hab]
  exact wpAny_bind (wpAny_richCompare_same_room (op := .Eq) hx.typeIs hy.typeIs F.slot_tuple_eq
   (wpAny_call_entry F.slot_tuple_eq hx.typeIs F.entry_tuple_eq (nk_eq_tree (show A.units + 1 + 4 < cLine by omega) hx hy ⟨_, rfl, (fun e => nomatch e), wpAny_truthy_bool h⟩) (F.args_tuple_eq_2 _ _)) (by omega))
theorem tk_quiet (m : Nat) {ks : List Key} {a : Addr} {Q : Bool → Shared → Prop} (hk : (tupleKind (mixKind P w)).is s.heap ks a) (h : Q true s) : wpAny (model P w) A (eqIsQuiet (m + 1) (.ref a)) Q E s := by
 have hk : IsTupleKey (mixKind P w) s.heap ks a := hk
 have hT := hk.typeIs
 obtain ⟨o, items, n, ho, _, hd, hi⟩ := hk
 unfold eqIsQuiet
 refine wpAny_bind (wpAny_specialOf hT F.slot_tuple_eq.lookup ?_)
 show wpAny _ _ (isInstance (.ref a) (.type "tuple") >>= _) _ _ s
 refine wpAny_bind (wpAny_isInstance hT isSubtype_tuple_tuple ?_)
 simp only [Bool.not_true, Bool.false_eq_true, if_false]
 refine wpAny_bind (wpAny_seqItems ho hd ?_)
 refine wpAny_bind ?_
 show wpAny _ _ (forIn items _ _) _ _ s
 rw [← Array.forIn_toList]
 refine wpAny_forIn_list _ (fun rest r s' => r.1 = none ∧ s' = s ∧ ∀ v ∈ rest, carriedByValue v = true) _ ?_ ?_ _ _ ⟨rfl, rfl, hi.byValue⟩
 ·rintro v rest r s' ⟨hr, rfl, hall⟩
  rw [eqIsQuiet_byValue _ (hall v List.mem_cons_self)]
  refine wpAny_bind (wpAny_pure ?_)
  simp only [Bool.not_true, Bool.false_eq_true, if_false]
  exact wpAny_pure ⟨rfl, rfl, fun u hu' => hall u (List.mem_cons_of_mem _ hu')⟩
 ·rintro ⟨r1, r2⟩ s' ⟨hr, rfl, _⟩
  simp only at hr
  subst hr
  exact wpAny_pure h
theorem nk_quiet {k : Nk} {a : Addr} {Q : Bool → Shared → Prop} (hk : IsNk P w s.heap k a) (h : Q true s) : wpAny (model P w) A (eqIsQuiet 8 (.ref a)) Q E s := by
 have hT := hk.typeIs
 obtain ⟨o, b, v, n, ho, _, hd, h1, h2⟩ := hk
 unfold eqIsQuiet
 refine wpAny_bind (wpAny_specialOf hT F.slot_tuple_eq.lookup ?_)
 show wpAny _ _ (isInstance (.ref a) (.type "tuple") >>= _) _ _ s
 refine wpAny_bind (wpAny_isInstance hT isSubtype_tuple_tuple ?_)
 simp only [Bool.not_true, Bool.false_eq_true, if_false]
 refine wpAny_bind (wpAny_seqItems ho hd ?_)
 refine wpAny_bind ?_
 show wpAny _ _ (forIn #[Value.ref b, v] _ _) _ _ s
 rw [← Array.forIn_toList]
 refine wpAny_forIn_list _ (fun rest r s' => r.1 = none ∧ s' = s ∧ (rest = [.ref b, v] ∨ rest = [v] ∨ rest = [])) _ ?_ ?_ _ _ ⟨rfl, rfl, .inl rfl⟩
 ·rintro x rest r s' ⟨hr, rfl, e | e | e⟩
  ·injection e with e1 e2
   subst e1; subst e2
   refine wpAny_bind (tk_quiet 6 h1 ?_)
   simp only [Bool.not_true, Bool.false_eq_true, if_false]
   exact wpAny_pure ⟨rfl, rfl, .inr (.inl (by first | rfl | trivial))⟩
  ·injection e with e1 e2
   subst e1; subst e2
   rw [eqIsQuiet_byValue _ ((mixKind P w).byValue _ _ h2)]
   refine wpAny_bind (wpAny_pure ?_)
   simp only [Bool.not_true, Bool.false_eq_true, if_false]
   exact wpAny_pure ⟨rfl, rfl, .inr (.inr (by first | rfl | trivial))⟩
  ·cases e
 ·rintro ⟨r1, r2⟩ s' ⟨hr, rfl, _⟩
  simp only at hr
  subst hr
  exact wpAny_pure h
end
noncomputable def nkKind (P : Program) (w : World) : HeapKind P w Nk where
 is := IsNk P w
 hash := nkHash P w
 draws := fun k => k.1.length + 3
 room := fun A => A.units + 8 < cLine
 inj := fun hx hy => hx.inj hy
 keeps := fun x ho hd hs => x.keeps ho hd hs
 pyHash := fun hu hk h => nk_pyHash hu hk h
 eqBool := fun hu hx hy h => nk_eqBool hu hx hy h
 quiet := fun hk h => nk_quiet hk h
end M

set_option Elab.async false
set_option linter.all false
set_option maxRecDepth 100000
set_option maxHeartbeats 4000000
namespace M
open PySem PySem.Spec PyProof.Rows L2
set_option autoImplicit false

noncomputable def nkE (ks : List Nk) (kas bs : List Addr) : List (Nk × Addr × Value) := (ks.zip (kas.zip bs)).map fun x => (x.1, x.2.1, .ref x.2.2)
noncomputable def ND (P : Program) (w : World) : NkD := fun a ks kas bs h => (a == sysModules) = false ∧ ks.length ≤ sizeLine ∧
 ∃ o es ep, h.get? a = some o ∧ o.ExactDict ∧ o.data = .dict es ep ∧ es.toList = (nkE ks kas bs).map (entryOfKey (nkKind P w)) ∧ ((nkE ks kas bs).map (·.1)).Nodup
section
variable {P : Program} {w : World} {H : Hp} {h : Heap} {a : Addr} {ks : List Nk} {kas bs : List Addr}
end
section
variable {X : Cx} {pins : List (Addr × Obj)} {σ : St} {H : Hp} {s : Shared} {a : Addr} {ks : List Nk} {kas bs : List Addr}
end
noncomputable def keyN : D → Option Nk
 | .tup [.tup ds, d] => match keysD ds with
  | some ks => (keyD d).map fun k => (ks, k)
  | none => none
 | _ => none
section
variable {X : Cx} {B G₀ : Hp}
end
end M

set_option Elab.async false
set_option linter.all false
set_option maxRecDepth 100000
set_option maxHeartbeats 4000000
namespace M
open PySem PySem.Spec PyProof.Rows L2
set_option autoImplicit false

structure LslN (P : Program) (w : World) (K : PySem.W.Frag) (B : Hp) (a : Addr) (ks : List Nk) (kas bs : List Addr) (cs : List (List D)) (H G : Hp) : Prop where
 ha : H a = some (.ext (ND P w a ks kas bs))
 ga : G a = none
 ba : B a = none
 lk : ks.length = kas.length
 lb : ks.length = bs.length
 len : bs.length = cs.length
 kg : NkG G ks kas
 el : ∀ (j : Nat) (b : Addr) (c : List D), bs[j]? = some b → cs[j]? = some c → ∃ xs, H b = some (.lst xs) ∧ xs.length ≤ sizeLine ∧ IsL K G c xs ∧ G b = none ∧ B b = none
 nd : (a :: bs).Nodup
section
variable {P : Program} {w : World} {K : PySem.W.Frag} {B : Hp} {a : Addr} {ks : List Nk} {kas bs : List Addr} {cs : List (List D)} {H G H1 G1 : Hp}
end
noncomputable def lnl1 (ks : List Nk) (cs : List (List D)) (k : Nk) (v : D) : Option (List Nk × List (List D)) := match idxK ks k with
 | some j => match cs[j]? with
  | some c => if c.length < 1000000 then some (ks, cs.set j (c ++ [v])) else none
  | none => none
 | none => some (ks ++ [k], cs ++ [[v]])
noncomputable def lnlO (k b : Nat) (f0 f1 f2 : FE) : List D → DS → List Nk → List (List D) → Rs (DS × List Nk × List (List D))
 | [], δ, ks, cs => .ok (δ, ks, cs)
 | d :: ds, δ, ks, cs => match f0 (δ.set k (some (.v d))) with
  | .ok d0 => match f1 ((δ.set k (some (.v d))).set b (some (.v d0))) with
   | .ok d1 => match f2 ((δ.set k (some (.v d))).set b (some (.v d0))) with
    | .ok d2 => match keyN d1 with
     | some ky => if ks.length < 1000000 then (match lnl1 ks cs ky d2 with
      | some r => lnlO k b f0 f1 f2 ds ((δ.set k (some (.v d))).set b (some (.v d0))) r.1 r.2
      | none => .bad) else .bad
     | none => .bad
    | _ => .bad
   | _ => .bad
  | _ => .bad
inductive LnlI (X : Cx) (B G1 : Hp) (δe : DS) (r : List Nk × List (List D)) (a : Addr) (g k b : Nat) (f0 f1 f2 : FE) (ds : List D) (m : Nat) (σ : St) (H : Hp) : Prop
 | mk (G : Hp) (δ : DS) (ks : List Nk) (kas bs : List Addr) (cs : List (List D)) (h1 : Rel X B G1 σ H G δ) (h2 : noOwn δ = true) (h3 : δ.length = δe.length) (h4 : σ[g]? = some (some (.ref a))) (h5 : LslN X.prog X.w X.K B a ks kas bs cs H G)
  (h7 : lnlO k b f0 f1 f2 (ds.drop m) δ ks cs = .ok (δe, r))
section
variable {X : Cx} {B G₀ : Hp}
end
end M

set_option Elab.async false
set_option linter.all false
set_option maxRecDepth 100000
set_option maxHeartbeats 4000000
namespace M
open PySem PySem.Spec PyProof.Rows L2
set_option autoImplicit false

structure CallF (X : Cx) (x : Str) (n : Nat) (g : List D → Rs D) (f : Addr) : Prop where
 gl : Gl X x
 db : (x == ("__debug__" : Str)) = false
 ex : ∃ (k : Nat) (fd : FuncData) (ps : List Str), Room k X.A ∧ FnOk X.prog X.w X.K X.mg X.base (CX1 X.prog X.w) k f fd ps (spX X.K X.mg g n) ∧ Binds X.K fd ps []
 mg : X.mg x = some (.ref f)
 kp : PySem.W.keepIn X.K (.ref f) = true
 len : ∀ ds, ds.length ≠ n → g ds = .bad
inductive Fns (X : Cx) (n : Nat) : List (Str × Pos) → List (List D → Rs D) → List Addr → Prop
 | nil : Fns X n [] [] []
 | cons {x : Str} {p : Pos} {g : List D → Rs D} {f : Addr} {xs : List (Str × Pos)} {gs : List (List D → Rs D)} {fs : List Addr} (h : CallF X x n g f) (t : Fns X n xs gs fs) : Fns X n ((x, p) :: xs) (g :: gs) (f :: fs)
noncomputable def callLF (gs : List (List D → Rs D)) (fi : FE) (fr : FA) : FE := fun δ => fi δ >>= fun d => match d with
 | .int i => if 0 ≤ i then (match gs[i.toNat]? with
  | some g => fr δ >>= g
  | none => .bad) else .bad
 | _ => .bad
section
variable {X : Cx} {B G₀ : Hp} {n : Nat}
theorem fns_nil : ∃ fs, Fns X n [] [] fs := ⟨[], .nil⟩
theorem fns_cons {x : Str} {p : Pos} {k : Nat} {g : List D → Rs D} {xs : List (Str × Pos)} {gs : List (List D → Rs D)} (F : FnX X.prog X.w X.K X.mg X.base x k n g) (hr : Room k X.A) (t : ∃ fs, Fns X n xs gs fs) (hg : Gl X x := by rfl) (hdb : (x == ("__debug__" : Str)) = false := by decide) : ∃ fs, Fns X n ((x, p) :: xs) (g :: gs) fs := by
 obtain ⟨⟨f, fd, ps, hF, hb, hm, hk⟩, hlen⟩ := F
 obtain ⟨fs, t⟩ := t
 exact ⟨f :: fs, .cons ⟨hg, hdb, ⟨k, fd, ps, hr, hF, hb⟩, hm, hk, hlen⟩ t⟩
noncomputable def nmE (x : Str × Pos) : Expr := .Name x.1 x.2
noncomputable def tRefs (fs : List Addr) : TA := fun _ H Q => Q (fs.map V.ref) H
theorem pa_names {xs : List (Str × Pos)} {gs : List (List D → Rs D)} {fs : List Addr} (h : Fns X n xs gs fs) : PA X (xs.map nmE) (tRefs fs) := by
 induction h with
 | nil => exact pa_nil
 | cons h _ ih => exact pa_cons (pe_glob (v := .ref _) h.gl h.mg rfl h.db) ih rfl
theorem Fns.at {xs : List (Str × Pos)} {gs : List (List D → Rs D)} {fs : List Addr} (h : Fns X n xs gs fs) : ∀ {i : Nat} {g : List D → Rs D}, gs[i]? = some g → ∃ f x, fs[i]? = some f ∧ CallF X x n g f := by
 induction h with
 | nil => intro i g e; simp at e
 | cons h _ ih =>
  intro i g e
  cases i with
  | zero => simp at e; subst e; exact ⟨_, _, rfl, h⟩
  | succ i => obtain ⟨f, x, e1, e2⟩ := ih (i := i) (by simpa using e); exact ⟨f, x, by simpa using e1, e2⟩
theorem Fns.len {xs : List (Str × Pos)} {gs : List (List D → Rs D)} {fs : List Addr} (h : Fns X n xs gs fs) : fs.length = gs.length := by
 induction h with
 | nil => rfl
 | cons _ _ ih => simp [ih]
theorem atI_nat {xs : List V} {i : Int} {v : V} (h0 : 0 ≤ i) (h : xs[i.toNat]? = some v) : atI xs i = some v := by
 have hl := (List.getElem?_eq_some_iff.mp h).1
 unfold atI ixN
 rw [if_pos h0, if_pos (by omega)]
 exact h
theorem q_callL {xs : List (Str × Pos)} {gs : List (List D → Rs D)} {ix e : Expr} {es : List Expr} {fi : FE} {fr : FA} {pl ps pos : Pos} (hF : ∃ fs, Fns X n xs gs fs) (hx : gs.length ≤ 100) (hi : PE X ix (tE X B G₀ fi)) (ha : PA X (e :: es) (tAs X B G₀ fr)) (hs : PlainIx ix := by intro _ _; rfl)
  (he : starEach (e :: es) X.env = (false, eval e X.env) :: starEach es X.env := by rfl) (hpl : (backTo pos (starEach es X.env)).any (·.1) = false := by rfl) :
  PE X (.Call (.Subscript (.List (xs.map nmE) pl) ix ps) (e :: es) [] pos) (tE X B G₀ (callLF gs fi fr)) := by
 obtain ⟨fs, hF⟩ := hF
 intro pins s σ H Q I ⟨G, δ, R, hw⟩
 show wpAny (model X.prog X.w) X.A (do callWith pos (← eval (.Subscript (.List (xs.map nmE) pl) ix ps) X.env) [] (backTo pos (starEach (e :: es) X.env)) (backToKw pos (keywordEach [] X.env))) _ X.xe s
 refine wpAny_bind ?_
 have hlen := hF.len
 refine thn (pe_ix ix_list (pe_lst (pos := pl) (pa_names hF)) hi hs pins s σ H (fun v H' => ∃ g f x G', v = .ref f ∧ CallF X x n g f ∧ Ext H G H' G' ∧ (fr δ >>= g).wp (fun c => Xo X c σ H' G') fun d => ∀ v H'' G'', Ext H' G' H'' G'' → Is X.K G'' d v → Q v H'') I ?_) fun fv s1 ⟨x, H1, I1, rx, g, f, nm, G1, ex, cf, e1, hw1⟩ => ?_
 ·refine ⟨by rw [List.length_map]; exact Nat.le_trans (by omega) (show 100 ≤ sizeLine by decide), fun p hp => ?_⟩
  have e0 : Ext H G (upd H p (.lst (fs.map V.ref))) G := Ext.own R.ext.gh hp
  refine ⟨G, δ, R.mono e0, ?_⟩
  unfold W callLF at hw
  rw [wp_bind] at hw
  have hp1 : (upd H p (.lst (fs.map V.ref))) p = some (.lst (fs.map V.ref)) := upd_same
  cases q : fi δ with
  | bad => rw [q] at hw; exact hw.elim
  | exc c => rw [q] at hw; exact fun pins s' H' G' ev ee I x => hw pins s' H' G' ev (e0.trans ee) I x
  | ok d =>
   rw [q] at hw
   intro v H2 G2 e2 i2
   have e02 := e0.trans e2
   cases d with
   | int i =>
    have hw : (if 0 ≤ i then (match gs[i.toNat]? with | some g => fr δ >>= g | none => .bad) else .bad : Rs D).wp (fun c => Xo X c σ H G) fun d => ∀ v H' G', Ext H G H' G' → Is X.K G' d v → Q v H' := hw
    split at hw
    ·rename_i h0
     split at hw
     ·rename_i g hg
      obtain ⟨f, x, hf, cf⟩ := hF.at hg
      cases (show v = .int i from i2)
      refine ⟨p, fs.map V.ref, i, .ref f, rfl, rfl, SqL.of (e2.hh _ _ hp1), atI_nat h0 (by rw [List.getElem?_map, hf]; rfl), g, f, x, G2, rfl, cf, e02, ?_⟩
      refine Rs.wp.mono hw (fun c x pins s' H' G' ev ee I y => x pins s' H' G' ev (e02.trans ee) I y) fun d q v H'' G'' ee i => q v H'' G'' (e02.trans ee) i
     ·exact hw.elim
    ·exact hw.elim
   | _ => exact hw.elim
 ·subst ex
  cases rx
  obtain ⟨k, fd, pps, hr, hFn, hb⟩ := cf.ex
  have R1 := R.mono e1
  refine PySem.W.callWith_K (h₀ := X.base) I1.ok.mod.kin cf.kp (bindA ha I1 R1 hw1 fun ds us vs s2 H2 G2 I2 R2 r2 e2 i2 hw2 => ⟨I2.kIn, ?_⟩) he hpl
  by_cases hl : ds.length = n
  ·refine run_fnX (E := fun cls _ H' => ∃ c C G', g ds = .exc c ∧ cls = .ref C ∧ X.mg c = some (.ref C) ∧ Ext H2 G2 H' G') hFn hr hb (fun ev s' cx => ?_) I2 r2 ⟨G2, ds, e2.gh, i2, hl, ?_⟩
   ·cases hgd : g ds with
    | exc c =>
     rw [hgd] at hw2
     refine hw2 pins s2 H2 G2 ev (Ext.refl e2.gh) I2 s' (cx1_isX I2 (fun C H' hE => ?_) cx)
     obtain ⟨c', C', G', h1, h2, h3, h4⟩ := hE
     rw [hgd] at h1; cases h1; cases h2
     exact ⟨G', h3, h4⟩
    | ok d => obtain ⟨e, C, Bk, H', rfl, ⟨c', C', G', h1, _⟩, _⟩ := cx; rw [hgd] at h1; cases h1
    | bad => rw [hgd] at hw2; exact hw2.elim
   ·cases hgd : g ds with
    | exc c => exact fun C H' G' hm' ex => ⟨c, C, G', rfl, rfl, hm', ex⟩
    | ok d => rw [hgd] at hw2; exact fun v H' G' e' i' => hw2 v H' G' (e2.trans e') i'
    | bad => rw [hgd] at hw2; exact hw2.elim
  ·rw [cf.len ds hl] at hw2; exact hw2.elim
end
@[simp] theorem s_callLF (gs : List (List D → Rs D)) (fi : FE) (fr : FA) (δ : DS) (i : Nat) (h : fi δ = .ok (.int (i : Int))) {g : List D → Rs D} (hg : gs[i]? = some g) : callLF gs fi fr δ = (fr δ >>= g) := by
 unfold callLF
 rw [h, ok_bind]
 show (if (0 : Int) ≤ (i : Int) then (match gs[((i : Int)).toNat]? with | some g => fr δ >>= g | none => .bad) else .bad) = _
 rw [if_pos (by omega), Int.toNat_natCast, hg]
noncomputable def tbAt : List (Str × Bool) → Str → Option Bool
 | [], _ => none
 | x :: r, c => if x.1 = c then some x.2 else tbAt r c
theorem tbAt_mem : ∀ {tb : List (Str × Bool)} {c : Str} {b : Bool}, tbAt tb c = some b → (c, b) ∈ tb
 | [], c, b, h => by cases h
 | x :: r, c, b, h => by
  unfold tbAt at h
  split at h
  ·rename_i e; cases h; subst e; exact List.mem_cons_self ..
  ·exact List.mem_cons_of_mem _ (tbAt_mem h)
noncomputable def iszR (tb : List (Str × Bool)) : D → Rs D
 | .exn c => match tbAt tb c with
  | some b => .ok (.bl b)
  | none => .bad
 | _ => .bad
noncomputable def iszF (tb : List (Str × Bool)) (fe : FE) : FE := fun δ => fe δ >>= iszR tb
section
variable {X : Cx} {B G₀ : Hp} {e : Expr} {fe : FE} {p pos : Pos} {tb : List (Str × Bool)}
theorem cr_isz {cV : V} {cv : Value} (hr : ∀ u, RelV cV u → u = cv) (hT : ∀ x ∈ tb, IsyK X.K x.1 cv x.2) : CallR X (.builtin "isinstance") (fun xs H Q => ∃ x c b, xs = [x, cV] ∧ Is X.K H (.exn c) x ∧ (c, b) ∈ tb ∧ Q (.bl b) H) := by
 intro pins s σ H xs us Q I r h
 obtain ⟨x, c, b, rfl, ⟨a, φ, C, rfl, h1, h2, h3⟩, hc, q⟩ := h
 obtain ⟨u, w, rfl, r1, r2⟩ := vals2 r
 cases (show u = .ref a from r1)
 cases hr w r2
 obtain ⟨C', n1, n2, n3⟩ := hT (c, b) hc
 dsimp only at n1 n3
 rw [h3] at n1; cases n1
 have hφ : φ s.heap := (I.hok a _ h1).1
 exact PySem.W.kia_one (exn_kit n2) I.kIn (h2 _ hφ) n3 (fun z => nomatch z) fun tk => ⟨.bl _, H, I.tok tk, rfl, q⟩
theorem q_isz {y : Str} {p2 : Pos} (hT : ∃ D, X.mg y = some (.ref D) ∧ ∀ x ∈ tb, IsyK X.K x.1 (.ref D) x.2) (hm : X.mg "isinstance" = none) (ha : PE X e (tE X B G₀ fe)) (hg : Gl X "isinstance" := by rfl) (hg2 : Gl X y := by rfl)
  (hd2 : (y == ("__debug__" : Str)) = false := by decide) (hs1 : starEach [e, .Name y p2] X.env = (false, eval e X.env) :: starEach [.Name y p2] X.env := by rfl) :
  PE X (.Call (.Name "isinstance" p) [e, .Name y p2] [] pos) (tE X B G₀ (iszF tb fe)) := by
 obtain ⟨D0, m2, hT⟩ := hT
 refine pd_of (pe_callB (cr_isz (cV := .ref D0) (cv := .ref D0) (fun u r => r) hT) hg hm PyProof.Rows.boot_isinstance (pa_cons ha (pa_cons (pe_glob (v := .ref D0) hg2 m2 rfl hd2) pa_nil) hs1) (by decide) (by decide) hs1) fun σ H G δ Q R hw => ?_
 unfold iszF W at hw
 rw [wp_bind] at hw
 refine ⟨G, δ, R, Rs.wp.mono hw (fun _ x => x) fun d q v H1 G1 e1 i1 => ?_⟩
 cases d with
 | exn c =>
  have q : (match tbAt tb c with | some b => Rs.ok (D.bl b) | none => .bad).wp (fun c => Xo X c σ H G) fun d => ∀ v H' G', Ext H G H' G' → Is X.K G' d v → Q v H' := q
  split at q
  ·rename_i b hb
   exact ⟨v, c, b, rfl, i1.same e1.gh, tbAt_mem hb, q _ H1 G1 e1 rfl⟩
  ·exact q.elim
 | _ => exact q.elim
theorem pd_never : PE X e (tE X B G₀ fun _ => .bad) := fun pins s σ H Q I ⟨G, δ, R, hw⟩ => hw.elim
theorem q_callN {x : Str} {e : Expr} {es : List Expr} {fr : FA} (hF : ∃ f, X.mg x = some (.ref f) ∧ PySem.W.keepIn X.K (.ref f) = true) (ha : PA X (e :: es) (tAs X B G₀ fr)) (hg : Gl X x := by rfl) (hdb : (x == ("__debug__" : Str)) = false := by decide)
  (he : starEach (e :: es) X.env = (false, eval e X.env) :: starEach es X.env := by rfl) (hpl : (backTo pos (starEach es X.env)).any (·.1) = false := by rfl) :
  PE X (.Call (.Name x p) (e :: es) [] pos) (tE X B G₀ (appF (fun _ => .bad) fr)) := by
 obtain ⟨f, hm, hk⟩ := hF
 intro pins s σ H Q I ⟨G, δ, R, hw⟩
 refine wpAny_Call_Name_kw (ld_glob I hg hm ?_ hdb)
 have hw : (fr δ >>= fun _ => (.bad : Rs D)).wp (fun c => Xo X c σ H G) fun d => ∀ v H' G', Ext H G H' G' → Is X.K G' d v → Q v H' := hw
 exact PySem.W.callWith_K (h₀ := X.base) I.ok.mod.kin hk (bindA ha I R hw fun ds us vs s1 H1 G1 I1 R1 r1 e1 i1 hw1 => hw1.elim) he hpl
end
@[simp] theorem s_iszF (tb : List (Str × Bool)) (fe : FE) (δ : DS) : iszF tb fe δ = (fe δ >>= iszR tb) := nodef rfl
noncomputable def bLof : List D → Option (List Bool)
 | [] => some []
 | .bl b :: ds => (bLof ds).map (b :: ·)
 | _ => none
theorem isL_bLof {K : PySem.W.Frag} {G : Hp} : ∀ {ds : List D} {ns : List Bool} {xs : List V}, bLof ds = some ns → IsL K G ds xs → xs = ns.map V.bl
 | [], ns, xs, h, i => by cases h; exact i
 | d :: ds, ns, xs, h, i => by
  obtain ⟨x, r, rfl, h1, h2⟩ := i
  cases d with
  | bl n =>
   obtain ⟨ms, e1, rfl⟩ := Option.map_eq_some_iff.mp (show (bLof ds).map (n :: ·) = some ns from h)
   rw [show x = .bl n from h1, isL_bLof e1 h2]; rfl
  | _ => cases h
theorem flat_bls : ∀ ns : List Bool, (ns.map V.bl).all flatV = true
 | [] => rfl
 | n :: ns => by rw [List.map_cons, List.all_cons, flat_bls ns]; rfl
theorem vals_bl : ∀ {ns : List Bool} {us : List Value}, Vals (ns.map V.bl) us → us = ns.map Value.bool
 | [], us, r => by cases r; rfl
 | n :: ns, us, r => by
  cases r with
  | cons r1 r2 => cases r1; rw [vals_bl r2]; rfl
noncomputable def cntR (d : D) : List D → Rs D
 | [.bl b] => match d with
  | .lst ds => match bLof ds with
   | some ns => .ok (.int (ns.count b : Nat))
   | none => .bad
  | _ => .bad
 | _ => .bad
noncomputable def ixbR (d : D) : List D → Rs D
 | [.bl b] => match d with
  | .lst ds => match bLof ds with
   | some ns => if b ∈ ns ∧ ns.length ≤ 1000000 then .ok (.int (ns.idxOf b : Nat)) else .bad
   | none => .bad
  | _ => .bad
 | _ => .bad
noncomputable def methL (g : D → List D → Rs D) (fo : FE) (fr : FA) : FE := fun δ => fo δ >>= fun d => match d with
 | .lst ds => fr δ >>= fun es => g (.lst ds) es
 | _ => .bad
section
variable {X : Cx} {B G₀ : Hp}
noncomputable def rCnt (K : PySem.W.Frag) : V → List V → Hp → VK → Prop := fun x xs H Q => ∃ (p : Addr) (ns : List Bool) (b : Bool), x = .ref p ∧ xs = [.bl b] ∧ SqL K H p (ns.map V.bl) ∧ Q (.int (ns.count b : Nat)) H
theorem countP_bl (b : Bool) : ∀ ns : List Bool, (ns.map Value.bool).countP (eqU (.bl b)) = ns.count b
 | [] => rfl
 | n :: ns => by
  rw [List.map_cons, List.countP_cons, List.count_cons, countP_bl b ns]
  rfl
theorem mt_cnt : MtR X "list.count" (rCnt X.K) := by
 intro pins s σ H x xs v us Q I rx rs h
 obtain ⟨p, ns, b, rfl, rfl, hq, q⟩ := h
 cases rx
 obtain ⟨u, rfl, ru⟩ := vals1 rs
 cases ru
 obtain ⟨its, r, pl, hz⟩ := I.list hq
 have hits := vals_bl r
 obtain ⟨⟨cls, dd, data, sl⟩, n, ho, hc, hdd, hd⟩ := pl
 simp only at hc hd
 subst hc hd
 refine call_meets PySem.F.slot_list_count ⟨_, ho, rfl⟩ PySem.F.entry_list_count (PySem.F.args_list_count_2 _ _) (SeqAt.list_countAt p its.toArray n dd sl (.bool b) (eqU (.bl b))) ⟨ho, fun y hy => mem_eqAt (x := .bl b) (v := .bool b) rfl rfl r (flat_bls ns) y (by simpa using hy), ?_⟩
 have hcn : its.toArray.toList.countP (eqU (.bl b)) = ns.count b := by rw [show its.toArray.toList = its from rfl, hits, countP_bl]
 rw [hcn]
 exact ⟨.int (ns.count b : Nat), H, I.tok _, ⟨_, rfl⟩, q⟩
theorem lt_idx_bl {b : Bool} : ∀ {ns : List Bool} {j : Nat}, j < ns.idxOf b → ∀ (h2 : j < ns.length), (ns[j] == b) = false
 | [], j, h, h2 => by simp at h2
 | n :: r, j, h, h2 => by
  rw [List.idxOf_cons] at h
  cases hn : (n == b) with
  | true => rw [hn] at h; simp at h
  | false =>
   rw [hn] at h
   cases j with
   | zero => exact hn
   | succ j => exact lt_idx_bl (ns := r) (j := j) (by simpa using h) (by simpa using h2)
noncomputable def rIxb (K : PySem.W.Frag) : V → List V → Hp → VK → Prop := fun x xs H Q => ∃ (p : Addr) (ns : List Bool) (b : Bool), x = .ref p ∧ xs = [.bl b] ∧ SqL K H p (ns.map V.bl) ∧ b ∈ ns ∧ ns.length ≤ 1000000 ∧ Q (.int (ns.idxOf b : Nat)) H
theorem mt_ixb : MtR X "list.index" (rIxb X.K) := by
 intro pins s σ H x xs v us Q I rx rs h
 obtain ⟨p, ns, b, rfl, rfl, hq, hb, hl, q⟩ := h
 cases rx
 obtain ⟨u, rfl, ru⟩ := vals1 rs
 cases ru
 obtain ⟨its, r, pl, hz⟩ := I.list hq
 have hits := vals_bl r
 obtain ⟨⟨cls, dd, data, sl⟩, n, ho, hc, hdd, hd⟩ := pl
 simp only at hc hd
 subst hc hd
 have hj : ns.idxOf b < ns.length := List.idxOf_lt_length_iff.mpr hb
 have hil : its.length = ns.length := by rw [hits]; simp
 have at_ : ∀ (m : Nat) (hm : m < its.length), eqU (.bl b) its[m] = (ns[m]'(by omega) == b) := fun m hm => by
  have : its[m] = Value.bool (ns[m]'(by omega)) := by simp [hits]
  rw [this]; rfl
 refine call_meets PySem.F.slot_list_index ⟨_, ho, rfl⟩ PySem.F.entry_list_index (PySem.F.args_list_index_2 _ _)
  (SeqAt.list_indexAt p its.toArray n dd sl (.bool b) (eqU (.bl b)) (ns.idxOf b) (by simpa [hil] using hj) (by omega) ?_ ?_) ⟨ho, fun y hy => mem_eqAt (x := .bl b) (v := .bool b) rfl rfl r (flat_bls ns) y (by simpa using hy), ⟨.int (ns.idxOf b : Nat), H, I.tok _, ⟨_, rfl⟩, q⟩⟩
 ·show eqU (.bl b) (its[ns.idxOf b]'(by omega)) = true
  rw [at_ _ (by omega)]
  simp
 ·intro m hm hlt
  have hm' : m < its.length := by simpa using hm
  show eqU (.bl b) (its[m]'hm') = false
  rw [at_ m hm']
  exact lt_idx_bl hlt _
theorem q_cnt {o e : Expr} {fo : FE} {fr : FA} {apos cpos : Pos} (ho : PE X o (tE X B G₀ fo)) (ha : PA X [e] (tAs X B G₀ fr))
  (hbase : attributeBase o "count" X.env (eval o X.env) = eval o X.env := by rfl)
  (hfew : ((backTo cpos (starEach [e] X.env)).all (fun x => !x.1) && (backToKw cpos (keywordEach [] X.env)).all (fun x => x.1.isSome) && decide ([e].length + ([] : List Keyword).length + (if ([] : List Keyword).isEmpty then 0 else 1) < 30)) = true := by rfl)
  (hline : (apos.endLine == cpos.line) = true := by rfl) (hs : starEach [e] X.env = (false, eval e X.env) :: starEach [] X.env := by rfl) (hplain : (backTo cpos (starEach [] X.env)).any (·.1) = false := by rfl) :
  PE X (.Call (.Attribute o "count" apos) [e] [] cpos) (tE X B G₀ (methL cntR fo fr)) := by
 refine pd_of (pe_bm PySem.F.plainAttrs_list PySem.F.slot_list_count PySem.F.type_list_count mt_cnt ho ha hbase hfew hline hs hplain) fun σ H G δ Q R hw => ⟨G, δ, R, ?_⟩
 unfold W methL at hw
 rw [wp_bind] at hw
 refine Rs.wp.mono hw (fun _ x => x) fun d1 q1 v1 H1 G1 e1 i1 => ?_
 cases d1 with
 | lst ds =>
  obtain ⟨p, xs, rfl, h1, h2, h3⟩ := i1
  refine ⟨.inl ⟨rfl, xs, e1.gh.seq h1⟩, G1, δ, R.mono e1, ?_⟩
  have q1 : (fr δ >>= fun es => cntR (.lst ds) es).wp (fun c => Xo X c σ H G) fun d => ∀ v H' G', Ext H G H' G' → Is X.K G' d v → Q v H' := q1
  rw [wp_bind] at q1
  refine Rs.wp.mono q1 (fun _ x => x.mono e1) fun es q2 vs H2 G2 e2 i2 => ?_
  unfold cntR at q2
  split at q2
  ·rename_i b
   dsimp only at q2
   split at q2
   ·rename_i ns hns
    obtain ⟨v, rfl, hv⟩ := isL1 i2
    cases (show v = .bl b from hv)
    cases isL_bLof hns h3
    exact ⟨p, ns, b, rfl, rfl, (e2.gg.trans e2.gh).seq h1, q2 _ H2 G2 (e1.trans e2) rfl⟩
   ·exact q2.elim
  ·exact q2.elim
 | _ => exact q1.elim
theorem q_ixb {o e : Expr} {fo : FE} {fr : FA} {apos cpos : Pos} (ho : PE X o (tE X B G₀ fo)) (ha : PA X [e] (tAs X B G₀ fr))
  (hbase : attributeBase o "index" X.env (eval o X.env) = eval o X.env := by rfl)
  (hfew : ((backTo cpos (starEach [e] X.env)).all (fun x => !x.1) && (backToKw cpos (keywordEach [] X.env)).all (fun x => x.1.isSome) && decide ([e].length + ([] : List Keyword).length + (if ([] : List Keyword).isEmpty then 0 else 1) < 30)) = true := by rfl)
  (hline : (apos.endLine == cpos.line) = true := by rfl) (hs : starEach [e] X.env = (false, eval e X.env) :: starEach [] X.env := by rfl) (hplain : (backTo cpos (starEach [] X.env)).any (·.1) = false := by rfl) :
  PE X (.Call (.Attribute o "index" apos) [e] [] cpos) (tE X B G₀ (methL ixbR fo fr)) := by
 refine pd_of (pe_bm PySem.F.plainAttrs_list PySem.F.slot_list_index PySem.F.type_list_index mt_ixb ho ha hbase hfew hline hs hplain) fun σ H G δ Q R hw => ⟨G, δ, R, ?_⟩
 unfold W methL at hw
 rw [wp_bind] at hw
 refine Rs.wp.mono hw (fun _ x => x) fun d1 q1 v1 H1 G1 e1 i1 => ?_
 cases d1 with
 | lst ds =>
  obtain ⟨p, xs, rfl, h1, h2, h3⟩ := i1
  refine ⟨.inl ⟨rfl, xs, e1.gh.seq h1⟩, G1, δ, R.mono e1, ?_⟩
  have q1 : (fr δ >>= fun es => ixbR (.lst ds) es).wp (fun c => Xo X c σ H G) fun d => ∀ v H' G', Ext H G H' G' → Is X.K G' d v → Q v H' := q1
  rw [wp_bind] at q1
  refine Rs.wp.mono q1 (fun _ x => x.mono e1) fun es q2 vs H2 G2 e2 i2 => ?_
  unfold ixbR at q2
  split at q2
  ·rename_i b
   dsimp only at q2
   split at q2
   ·rename_i ns hns
    split at q2
    ·rename_i hbn
     obtain ⟨v, rfl, hv⟩ := isL1 i2
     cases (show v = .bl b from hv)
     cases isL_bLof hns h3
     exact ⟨p, ns, b, rfl, rfl, (e2.gg.trans e2.gh).seq h1, hbn.1, hbn.2, q2 _ H2 G2 (e1.trans e2) rfl⟩
    ·exact q2.elim
   ·exact q2.elim
  ·exact q2.elim
 | _ => exact q1.elim
end
@[simp] theorem s_methL (g : D → List D → Rs D) (fo : FE) (fr : FA) (δ : DS) (ds : List D) (h : fo δ = .ok (.lst ds)) : methL g fo fr δ = (fr δ >>= fun es => g (.lst ds) es) := by unfold methL; rw [h]; rfl
theorem strOk_reps {x : Str} (h : PyData.strOk x = true) : ∀ (k : Nat) (a : Array Nat), PyData.strOk ⟨a⟩ = true → PyData.strOk ⟨(List.replicate k x.cps).foldl (· ++ ·) a⟩ = true
 | 0, a, ha => ha
 | k + 1, a, ha => by
  rw [List.replicate_succ, List.foldl_cons]
  exact strOk_reps h k _ (strOk_append (a := ⟨a⟩) (b := x) ha h)
noncomputable def smul2R : D → D → Rs D
 | .str x, .int i => if 2 ≤ i ∧ i ≤ 1000000 ∧ 1 ≤ x.length ∧ x.length ≤ 10 then .ok (.str ⟨(List.replicate i.toNat x.cps).foldl (· ++ ·) #[]⟩) else .bad
 | _, _ => .bad
theorem od_smul2 {X : Cx} : OpD X (binaryOp .Mult) smul2R := by
 intro pins s σ H G Q d1 d2 x y v u I gh rx ry i1 i2 hw
 cases d1 with
 | str z =>
  cases d2 with
  | int j =>
   have hw : W X Q σ H G (if 2 ≤ j ∧ j ≤ 1000000 ∧ 1 ≤ z.length ∧ z.length ≤ 10 then .ok (.str ⟨(List.replicate j.toNat z.cps).foldl (· ++ ·) #[]⟩) else .bad) := hw
   obtain ⟨⟨h1, h2, h3, h4⟩, hw⟩ := wIf (r := .ok (.str ⟨(List.replicate j.toNat z.cps).foldl (· ++ ·) #[]⟩)) (c := 2 ≤ j ∧ j ≤ 1000000 ∧ 1 ≤ z.length ∧ z.length ≤ 10) hw
   obtain ⟨rfl, hz, ho⟩ := i1
   obtain ⟨t, rfl⟩ := (show ∃ t, v = .str z t from rx)
   cases (show y = .int j from i2)
   obtain ⟨t2, rfl⟩ := (show ∃ t, u = .int j t from ry)
   have hb : (j == 1 || z.length == 0) = false := by
    have a1 : (j == 1) = false := beq_eq_false_iff_ne.mpr (by omega)
    have a2 : (z.length == 0) = false := beq_eq_false_iff_ne.mpr (by omega)
    rw [a1, a2]; rfl
   have hmul : z.length * j.toNat ≤ 10000000 := Nat.le_trans (Nat.mul_le_mul h4 (show j.toNat ≤ 1000000 by omega)) (by decide)
   have hlong : Builtin.Str.tooLong (z.length * j.toNat) = false := by
    unfold Builtin.Str.tooLong
    have : (10000000 : Nat) ≤ sizeLine := by decide
    simp; omega
   have hdiv : ¬ ((z.length : Int) > (2 ^ 63 - 1) / j) := by
    have : (10 : Int) ≤ (2 ^ 63 - 1) / j := (Int.le_ediv_iff_mul_le (by omega)).mpr (by omega)
    omega
   refine PySem.SB.mul ⟨by simp; omega, fun _ _ => hdiv, fun _ _ => hlong⟩ fun t' k => ?_
   have e : Txt.mul z j = ⟨(List.replicate j.toNat z.cps).foldl (· ++ ·) #[]⟩ := by unfold Txt.mul; rw [if_neg (by omega), if_neg (by rw [hb]; decide)]
   rw [e]
   exact ⟨.str _, H, I.tok k, ⟨t', rfl⟩, wOk hw gh ⟨rfl, fits_reps hlong, strOk_reps ho _ _ (by simp [PyData.strOk])⟩⟩
  | _ => exact hw.elim
 | _ => cases d2 <;> exact hw.elim
noncomputable def repR (ds : List D) (r : Rs D) : Rs D := if ds.length ≤ 100 then (r >>= fun d => match d with
 | .int k => if 0 ≤ k ∧ k ≤ 100000 then .ok (.lst (List.replicate k.toNat ds).flatten) else .bad
 | _ => .bad) else .bad
noncomputable def repF (fa : FA) (fb : FE) : FE := fun δ => fa δ >>= fun ds => repR ds (fb δ)
theorem isL_rep {K : PySem.W.Frag} {G : Hp} {ds : List D} {xs : List V} (h : IsL K G ds xs) : ∀ k : Nat, IsL K G (List.replicate k ds).flatten (List.replicate k xs).flatten
 | 0 => rfl
 | k + 1 => by rw [List.replicate_succ, List.replicate_succ, List.flatten_cons, List.flatten_cons]; exact h.append (isL_rep h k)
theorem q_rep {X : Cx} {B G₀ : Hp} {es : List Expr} {b : Expr} {fa : FA} {fb : FE} {pl pos : Pos} (ha : PA X es (tAs X B G₀ fa)) (hb : PE X b (tE X B G₀ fb)) : PE X (.BinOp (.List es pl) .Mult b pos) (tE X B G₀ (repF fa fb)) := by
 refine pd_of (pe_op op_rep (pe_lst (pos := pl) ha) hb) fun σ H G δ Q R hw => ⟨G, δ, R, ?_⟩
 unfold W repF at hw
 rw [wp_bind] at hw
 refine Rs.wp.mono hw (fun _ x => x) fun ds q1 vs H1 G1 e1 i1 => ?_
 have hvl := i1.length
 unfold repR at q1
 split at q1
 ·rename_i k2
  refine ⟨Nat.le_trans (by omega) (show 100 ≤ sizeLine by decide), fun p hp => ?_⟩
  have e2 : Ext H1 G1 (upd H1 p (.lst vs)) G1 := Ext.own e1.gh hp
  refine ⟨G1, δ, (R.mono e1).mono e2, ?_⟩
  rw [wp_bind] at q1
  refine Rs.wp.mono q1 (fun _ x => x.mono (e1.trans e2)) fun d q1 v H3 G3 e3 i3 => ?_
  cases d with
  | int k =>
   have q1 : (if 0 ≤ k ∧ k ≤ 100000 then Rs.ok (.lst (List.replicate k.toNat ds).flatten) else .bad : Rs D).wp (fun c => Xo X c σ H G) fun d => ∀ v H' G', Ext H G H' G' → Is X.K G' d v → Q v H' := q1
   split at q1
   ·rename_i hk
    obtain ⟨k0, k1⟩ := hk
    cases (show v = .int k from i3)
    have e13 := (e1.trans e2).trans e3
    have hm : vs.length * k.toNat ≤ 10000000 := Nat.le_trans (Nat.mul_le_mul (show vs.length ≤ 100 by omega) (show k.toNat ≤ 100000 by omega)) (by decide)
    have hsz : vs.length * k.toNat ≤ sizeLine := Nat.le_trans hm (by decide)
    refine ⟨p, k, vs, rfl, rfl, e3.hh _ _ upd_same, by omega, by omega, hsz, fun p2 hp2 => ?_⟩
    have i13 := isL_rep (i1.same (e2.trans e3).gg) k.toNat
    refine q1 (.ref p2) _ (upd G3 p2 (.lst (List.replicate k.toNat vs).flatten)) (e13.trans (Ext.laid e3.gh hp2)) ⟨p2, _, rfl, .of upd_same, ?_, i13.same (same_upd (e3.gh.free hp2) _)⟩
    rw [len_rep, Nat.mul_comm]; exact hsz
   ·exact q1.elim
  | _ => exact q1.elim
 ·exact q1.elim
@[simp] theorem s_repF (fa : FA) (fb : FE) (δ : DS) : repF fa fb δ = (fa δ >>= fun ds => repR ds (fb δ)) := nodef rfl
end M

set_option linter.all false
set_option maxRecDepth 100000
namespace A
open PySem PySem.Spec PyProof.Rows L2 M
set_option autoImplicit false
noncomputable def F__law_cell_at : DS → Out :=
 (seqO (ifS (cmpT ltR (varD 1) (appF lenR (aC (varD 0) a0))) (retS (bin2 idxR (varD 0) (varD 1))) Out.nx)
 (seqO (ifS (cmpT eqR (varD 0) (appF lstR a0)) (retS (cD (.int 0))) Out.nx)
 (retS (bin2 addR (bin2 mulR (bin2 idxR (varD 0) (bin2 modR (varD 1) (appF lenR (aC (varD 0) a0)))) (cD (.int 31))) (varD 1)))))
noncomputable def g__law_cell_at : List D → Rs D := fnR 2 0 F__law_cell_at

noncomputable def F__law_mixed : DS → Out :=
 (seqO (setS 3 (bin2 modR (bin2 mulR (bin2 addR (bin2 addR (appF g__law_cell_at (aC (varD 0) (aC (varD 1) a0))) (bin2 mulR (cD (.int 7919)) (varD 1))) (cD (.int 1))) (cD (.int 48271))) (cD (.int 2147483647))))
 (retS (bin2 modR (bin2 modR (bin2 addR (bin2 addR (bin2 mulR (varD 3) (varD 3)) (bin2 mulR (cD (.int 7)) (varD 3))) (varD 1)) (cD (.int 2147483629))) (varD 2))))
noncomputable def g__law_mixed : List D → Rs D := fnR 3 1 F__law_mixed

noncomputable def F__law_bad : DS → Out :=
 (seqO (setS 2 (bin2 idxR (appF lstR (aC (negV (cD (.int 1))) (aC (cD (.bl true)) (aC (cD (.str "1")) (aC (cD .non) (aC (bin2 powR (cD (.int 10)) (cD (.int 5))) a0)))))) (bin2 modR (bin2 fdivR (varD 1) (cD (.int 7))) (cD (.int 5)))))
 (seqO (ifS (cmpT eqR (varD 0) (cD (.int 0))) (seqO (ownS 3 (aC (appF lstR (aC (cD (.int 1)) (aC (cD (.int 2)) (aC (cD (.int 3)) a0)))) (aC (appF tupR (aC (cD (.int 1)) (aC (cD (.int 2)) a0))) (aC (appF tupR (aC (cD (.int 1)) (aC (cD (.int 2)) (aC (cD (.int 3)) (aC (cD (.int 4)) a0))))) (aC (cD .non) (aC (appF tupR (aC (varD 2) (aC (cD (.int 2)) (aC (cD (.int 3)) a0)))) (aC (appF tupR (aC (cD (.int 1)) (aC (varD 2) (aC (cD (.int 3)) a0)))) a0)))))))
 (shareS' (retS (bin2 idxR (bin2 catR (varD 3) (appF lstR (aC (appF tupR (aC (cD (.int 1)) (aC (cD (.int 2)) (aC (bin2 idxR (appF lstR (aC (varD 2) (aC (cD (.int 0)) a0))) (bin2 modR (bin2 fdivR (varD 1) (cD (.int 7))) (cD (.int 2)))) a0)))) a0))) (bin2 modR (varD 1) (cD (.int 7))))))) Out.nx)
 (seqO (ifS (cmpT eqR (varD 0) (cD (.int 1))) (retS (bin2 idxR (appF lstR (aC (cD (.int 0)) (aC (cD (.int 201)) (aC (negV (cD (.int 1))) (aC (cD (.bl true)) (aC (cD (.str "2")) (aC (cD .non) (aC (appF tupR (aC (cD (.int 2)) a0)) a0)))))))) (bin2 modR (varD 1) (cD (.int 7))))) Out.nx)
 (seqO (ifS (cmpT eqR (varD 0) (cD (.int 2))) (retS (bin2 idxR (appF lstR (aC (bin2 smul2R (cD (.str "a")) (cD (.int 2001))) (aC (cD (.str "a\n")) (aC (cD (.str "a\tb")) (aC (bin2 addR (bin2 smul2R (cD (.str "b")) (cD (.int 1999))) (cD (.str "\n"))) (aC (appF lstR (aC (cD (.str "a")) a0)) (aC (cD .non) (aC (cD (.int 5)) a0)))))))) (bin2 modR (varD 1) (cD (.int 7))))) Out.nx)
 (seqO (ifS (cmpT eqR (varD 0) (cD (.int 3))) (seqO (ownS 3 (aC (appF tupR (aC (cD (.str "copy")) (aC (cD (.int 0)) (aC (cD (.int 0)) a0)))) (aC (appF tupR (aC (cD (.str "copy")) (aC (negV (cD (.int 1))) (aC (cD (.int 1)) a0)))) (aC (appF tupR (aC (cD (.str "signs")) (aC (cD (.str "")) a0))) (aC (appF tupR (aC (cD (.str "signs")) (aC (cD (.str "a\n")) a0))) a0)))))
 (seqO (mutS 3 extM (aC (appF lstR (aC (appF lstR (aC (cD (.str "signs")) (aC (cD (.str "a")) a0))) (aC (appF tupR (aC (cD (.str "copies")) (aC (cD (.int 0)) (aC (cD (.int 1)) a0)))) (aC (appF tupR (aC (cD (.str "copy")) (aC (cD (.int 0)) a0))) (aC (appF tupR (aC (cD (.str "signs")) (aC (cD (.str "a")) (aC (cD (.str "b")) a0)))) (aC (appF tupR (aC (cD (.str "copy")) (aC (cD (.bl true)) (aC (cD (.int 1)) a0)))) (aC (cD .non) a0))))))) a0))
 (seqO (mutS 3 extM (aC (appF lstR (aC (appF tupR (aC (cD (.str "copy")) (aC (cD (.int 0)) (aC (cD (.bl true)) a0)))) (aC (appF tupR (aC (cD (.str "signs")) (aC (cD (.int 5)) a0))) (aC (appF tupR (aC (cD (.str "copy")) (aC (cD (.str "0")) (aC (cD (.int 1)) a0)))) (aC (appF tupR a0) a0))))) a0))
 (seqO (setS 4 (repF (aC (appF tupR (aC (cD (.str "signs")) (aC (cD (.str "a")) a0))) a0) (cD (.int 2001))))
 (retS (bin2 idxR (appF lstR (aC (appF tupR (aC (appF tupR (aC (cD (.str "signs")) (aC (cD (.str "a")) a0))) a0)) (aC (cD .non) (aC (varD 4) (aC (appF lstR (aC (appF tupR (aC (cD (.str "signs")) (aC (cD (.str "a")) a0))) (aC (ixO 3 (bin2 modR (bin2 fdivR (varD 1) (cD (.int 7))) (cD (.int 14)))) a0))) a0))))) (appF minR (aC (cD (.int 3)) (aC (bin2 modR (varD 1) (cD (.int 7))) a0))))))))) Out.nx)
 (seqO (setS 5 (appF tupR (aC (appF tupR (aC (cD (.int 1)) (aC (cD (.int 2)) a0))) (aC (cD (.int 3)) a0))))
 (seqO (ownS 3 (aC (appF tupR (aC (appF tupR (aC (cD (.int 1)) a0)) (aC (cD (.int 3)) a0))) (aC (appF tupR (aC (appF tupR (aC (cD (.int 1)) (aC (cD (.int 2)) a0))) (aC (negV (cD (.int 1))) a0))) (aC (appF tupR (aC (appF tupR (aC (cD (.int 1)) (aC (cD (.bl true)) a0))) (aC (cD (.int 3)) a0))) (aC (appF tupR (aC (appF tupR (aC (cD (.int 1)) (aC (cD (.int 2)) a0))) (aC (cD (.str "3")) a0))) (aC (appF lstR (aC (appF tupR (aC (cD (.int 1)) (aC (cD (.int 2)) a0))) (aC (cD (.int 3)) a0))) (aC (appF tupR (aC (appF tupR (aC (cD (.int 1)) (aC (cD (.int 2)) a0))) a0)) (aC (appF tupR (aC (appF lstR (aC (cD (.int 1)) (aC (cD (.int 2)) a0))) (aC (cD (.int 3)) a0))) (aC (cD .non) a0)))))))))
 (retS (bin2 idxR (appF lstR (aC (appF tupR (aC (varD 5) a0)) (aC (cD .non) (aC (appF lstR (aC (varD 5) (aC (ixO 3 (bin2 modR (bin2 fdivR (varD 1) (cD (.int 7))) (cD (.int 8)))) a0))) a0)))) (appF minR (aC (cD (.int 2)) (aC (bin2 modR (varD 1) (cD (.int 7))) a0))))))))))))
noncomputable def g__law_bad : List D → Rs D := fnR 2 4 F__law_bad

noncomputable def F_is_whole : DS → Out :=
 (retS (andV (isiF "int" (varD 0)) (notV (isiF "bool" (varD 0)))))
noncomputable def g_is_whole : List D → Rs D := fnR 1 0 F_is_whole

noncomputable def F_is_from : DS → Out :=
 (retS (andV (appF g_is_whole (aC (varD 0) a0)) (bin2 geR (varD 0) (varD 1))))
noncomputable def g_is_from : List D → Rs D := fnR 2 0 F_is_from

noncomputable def F_is_within : DS → Out :=
 (retS (andV (appF g_is_from (aC (varD 0) (aC (varD 1) a0))) (bin2 leR (varD 0) (varD 2))))
noncomputable def g_is_within : List D → Rs D := fnR 3 0 F_is_within

noncomputable def F_is_key : DS → Out :=
 (seqO (ifS (orT (notT (valT (isiF "tuple" (varD 0)))) (cmpT neR (appF lenR (aC (varD 0) a0)) (cD (.int 3)))) (retS (cD (.bl false))) Out.nx)
 (seqO (ifS (notT (valT (appF g_is_within (aC (bin2 idxR (varD 0) (cD (.int 0))) (aC (cD (.int 1)) (aC (cD (.int 999)) a0)))))) (retS (cD (.bl false))) Out.nx)
 (retS (andV (appF g_is_within (aC (bin2 idxR (varD 0) (cD (.int 1))) (aC (cD (.int 1)) (aC (cD (.int 999)) a0)))) (appF g_is_within (aC (bin2 idxR (varD 0) (cD (.int 2))) (aC (cD (.int 1)) (aC (cD (.int 99999)) a0))))))))
noncomputable def g_is_key : List D → Rs D := fnR 1 0 F_is_key

noncomputable def F_check_key : DS → Out :=
 (ifS (notT (valT (appF g_is_key (aC (varD 0) a0)))) (raiseS "NoKey" (aC (cD (.str "a key is a tuple of three whole numbers, up to 999, 999 and 99999, each from 1 on")) a0)) Out.nx)
noncomputable def g_check_key : List D → Rs D := fnX 1 0 F_check_key

noncomputable def F_is_sign : DS → Out :=
 (seqO (setS 1 (appF ordR (aC (varD 0) a0)))
 (retS (andV (chainV leR leR (cD (.int 32)) (varD 1) (cD (.int 126))) (bin2 neR (varD 1) (cD (.int 37))))))
noncomputable def g_is_sign : List D → Rs D := fnR 1 1 F_is_sign

noncomputable def F_is_text : DS → Out :=
 (seqO (ifS (orT (notT (valT (isiF "str" (varD 0)))) (cmpT gtR (appF lenR (aC (varD 0) a0)) (cD (.int 2000)))) (retS (cD (.bl false))) Out.nx)
 (retS (appF allR (aC (compF [] (itF (varD 0)) (appF g_is_sign (aC (varD 0) a0)) tt) a0))))
noncomputable def g_is_text : List D → Rs D := fnR 1 0 F_is_text

noncomputable def F_check_text : DS → Out :=
 (ifS (notT (valT (appF g_is_text (aC (varD 0) a0)))) (raiseS "NoSigns" (aC (cD (.str "a text has at most 2000 signs, from the blank to the tilde, none the percent sign")) a0)) Out.nx)
noncomputable def g_check_text : List D → Rs D := fnX 1 0 F_check_text

noncomputable def F_is_copy : DS → Out :=
 (retS (bin2 eqR (bin2 idxR (varD 0) (cD (.int 0))) (cD (.str "copy"))))
noncomputable def g_is_copy : List D → Rs D := fnR 1 0 F_is_copy

noncomputable def F_is_piece : DS → Out :=
 (seqO (ifS (orT (notT (valT (isiF "tuple" (varD 0)))) (orT (cmpT eqR (appF lenR (aC (varD 0) a0)) (cD (.int 0))) (notT (valT (isiF "str" (bin2 idxR (varD 0) (cD (.int 0)))))))) (retS (cD (.bl false))) Out.nx)
 (seqO (ifS (valT (appF g_is_copy (aC (varD 0) a0))) (retS (andV (bin2 eqR (appF lenR (aC (varD 0) a0)) (cD (.int 3))) (andV (appF g_is_from (aC (bin2 idxR (varD 0) (cD (.int 1))) (aC (cD (.int 0)) a0))) (appF g_is_from (aC (bin2 idxR (varD 0) (cD (.int 2))) (aC (cD (.int 1)) a0)))))) Out.nx)
 (seqO (ifS (orT (cmpT neR (bin2 idxR (varD 0) (cD (.int 0))) (cD (.str "signs"))) (cmpT neR (appF lenR (aC (varD 0) a0)) (cD (.int 2)))) (retS (cD (.bl false))) Out.nx)
 (retS (andV (appF g_is_text (aC (bin2 idxR (varD 0) (cD (.int 1))) a0)) (bin2 gtR (appF lenR (aC (bin2 idxR (varD 0) (cD (.int 1))) a0)) (cD (.int 0))))))))
noncomputable def g_is_piece : List D → Rs D := fnR 1 0 F_is_piece

noncomputable def F_is_letter : DS → Out :=
 (seqO (ifS (orT (notT (valT (isiF "list" (varD 0)))) (cmpT gtR (appF lenR (aC (varD 0) a0)) (cD (.int 2000)))) (retS (cD (.bl false))) Out.nx)
 (retS (appF allR (aC (compF [] (itF (varD 0)) (appF g_is_piece (aC (varD 0) a0)) tt) a0))))
noncomputable def g_is_letter : List D → Rs D := fnR 1 0 F_is_letter

noncomputable def F_check_letter : DS → Out :=
 (ifS (notT (valT (appF g_is_letter (aC (varD 0) a0)))) (raiseS "NoLetter" (aC (cD (.str "a letter is a list of at most 2000 pieces, each a copy or signs")) a0)) Out.nx)
noncomputable def g_check_letter : List D → Rs D := fnX 1 0 F_check_letter

noncomputable def F_plain : DS → Out :=
 (seqO (exprS (appF g_check_letter (aC (varD 0) a0)))
 badS)
noncomputable def g_plain : List D → Rs D := fnX 1 0 F_plain

noncomputable def L_first_sum_1 : DS → Out :=
 (seqO (augS 3 addR (appF ordR (aC (varD 5) a0)))
 (augS 4 addR (varD 3)))
noncomputable def F_first_sum : DS → Out :=
 (seqO (exprS (appF g_check_key (aC (varD 0) a0)))
 (seqO (exprS (appF g_check_text (aC (varD 1) a0)))
 (seqO (setS 2 (bin2 idxR (varD 0) (cD (.int 0))))
 (seqO (setS 3 (cD (.int 0)))
 (seqO (setS 4 (cD (.int 0)))
 (seqO (forS (itF (varD 1)) (tgN 5) L_first_sum_1)
 (retS (appF tupR (aC (bin2 modR (varD 3) (varD 2)) (aC (bin2 modR (varD 4) (varD 2)) a0))))))))))
noncomputable def g_first_sum : List D → Rs D := fnX 2 4 F_first_sum

noncomputable def L_chained_1 : DS → Out :=
 (setS 3 (bin2 modR (bin2 addR (bin2 mulR (varD 0) (varD 3)) (appF ordR (aC (varD 4) a0))) (varD 1)))
noncomputable def F_chained : DS → Out :=
 (seqO (setS 3 (cD (.int 0)))
 (seqO (forS (itF (varD 2)) (tgN 4) L_chained_1)
 (retS (varD 3))))
noncomputable def g_chained : List D → Rs D := fnR 3 2 F_chained

noncomputable def F_second_sum : DS → Out :=
 (seqO (exprS (appF g_check_key (aC (varD 0) a0)))
 (seqO (exprS (appF g_check_text (aC (varD 1) a0)))
 (retS (appF g_chained (aC (bin2 idxR (varD 0) (cD (.int 1))) (aC (bin2 idxR (varD 0) (cD (.int 2))) (aC (varD 1) a0)))))))
noncomputable def g_second_sum : List D → Rs D := fnX 2 0 F_second_sum

noncomputable def F_whole_sum : DS → Out :=
 (seqO (exprS (appF g_check_key (aC (varD 0) a0)))
 (seqO (exprS (appF g_check_text (aC (varD 1) a0)))
 badS))
noncomputable def g_whole_sum : List D → Rs D := fnX 2 0 F_whole_sum

noncomputable def F_rolled : DS → Out :=
 (seqO (exprS (appF g_check_key (aC (varD 0) a0)))
 (seqO badS
 (seqO badS
 (seqO badS
 badS))))
noncomputable def g_rolled : List D → Rs D := fnX 5 3 F_rolled

noncomputable def F_check_size : DS → Out :=
 (ifS (notT (valT (appF g_is_within (aC (varD 0) (aC (cD (.int 1)) (aC (cD (.int 200)) a0)))))) (raiseS "NoSize" (aC (cD (.str "a size is a whole number from 1 to 200")) a0)) Out.nx)
noncomputable def g_check_size : List D → Rs D := fnX 1 0 F_check_size

noncomputable def F_card_of : DS → Out :=
 (retS (appF tupR (aC (appF g_first_sum (aC (varD 0) (aC (varD 1) a0))) (aC (appF g_second_sum (aC (varD 0) (aC (varD 1) a0))) a0))))
noncomputable def g_card_of : List D → Rs D := fnX 2 0 F_card_of

noncomputable def F_cards : DS → Out :=
 (seqO (exprS (appF g_check_key (aC (varD 0) a0)))
 (seqO (exprS (appF g_check_size (aC (varD 1) a0)))
 (seqO (exprS (appF g_check_text (aC (varD 2) a0)))
 (retS (compFX [("key", 0), ("elder", 2), ("size", 1)] (rng3 (aC (cD (.int 0)) (aC (bin2 addR (bin2 subR (appF lenR (aC (varD 2) a0)) (varD 1)) (cD (.int 1))) (aC (varD 1) a0)))) (appF g_card_of (aC (varD 1) (aC (slF (varD 2) (someP (varD 0)) (someP (bin2 addR (varD 0) (varD 3)))) a0))))))))
noncomputable def g_cards : List D → Rs D := fnX 3 0 F_cards

noncomputable def F_is_card : DS → Out :=
 (seqO (ifS (orT (notT (valT (isiF "tuple" (varD 0)))) (cmpT neR (appF lenR (aC (varD 0) a0)) (cD (.int 2)))) (retS (cD (.bl false))) Out.nx)
 (seqO (setS 1 (bin2 idxR (varD 0) (cD (.int 0))))
 (seqO (ifS (orT (notT (valT (isiF "tuple" (varD 1)))) (cmpT neR (appF lenR (aC (varD 1) a0)) (cD (.int 2)))) (retS (cD (.bl false))) Out.nx)
 (retS (andV (appF g_is_from (aC (bin2 idxR (varD 1) (cD (.int 0))) (aC (cD (.int 0)) a0))) (andV (appF g_is_from (aC (bin2 idxR (varD 1) (cD (.int 1))) (aC (cD (.int 0)) a0))) (appF g_is_from (aC (bin2 idxR (varD 0) (cD (.int 1))) (aC (cD (.int 0)) a0)))))))))
noncomputable def g_is_card : List D → Rs D := fnR 1 1 F_is_card

noncomputable def F_check_cards : DS → Out :=
 (ifS (orT (notT (valT (isiF "list" (varD 0)))) (notT (valT (appF allR (aC (compF [] (itF (varD 0)) (appF g_is_card (aC (varD 0) a0)) tt) a0))))) (raiseS "NoCards" (aC (cD (.str "cards are a list of tuples, each of a tuple of two whole numbers and a whole number")) a0)) Out.nx)
noncomputable def g_check_cards : List D → Rs D := fnX 1 0 F_check_cards

noncomputable def F_found_by : DS → Out :=
 (seqO (exprS (appF g_check_key (aC (varD 0) a0)))
 (seqO (exprS (appF g_check_size (aC (varD 1) a0)))
 (seqO (exprS (appF g_check_cards (aC (varD 2) a0)))
 (seqO (exprS (appF g_check_text (aC (varD 3) a0)))
 (seqO badS
 (seqO badS
 (seqO badS
 (seqO badS
 (seqO badS
 (seqO badS
 badS))))))))))
noncomputable def g_found_by : List D → Rs D := fnX 4 7 F_found_by

noncomputable def F_talk : DS → Out :=
 (seqO (setS 4 (appF g_found_by (aC (varD 0) (aC (varD 1) (aC (appF g_cards (aC (varD 0) (aC (varD 1) (aC (varD 2) a0)))) (aC (varD 3) a0))))))
 (seqO badS
 (seqO badS
 badS)))
noncomputable def g_talk : List D → Rs D := fnX 4 2 F_talk

noncomputable def L_first_places_1 : DS → Out :=
 (seqO (setdS 1 (aC (varD 3) (aC (varD 2) a0)))
 (augS 2 addR (appF lenR (aC (varD 3) a0))))
noncomputable def F_first_places : DS → Out :=
 (seqO (newDS 1)
 (seqO (setS 2 (cD (.int 0)))
 (seqO (forS (itF (varD 0)) (tgN 3) L_first_places_1)
 (shareS' (retS (varD 1))))))
noncomputable def g_first_places : List D → Rs D := fnR 1 3 F_first_places

noncomputable def L_rolled_sums_1 : DS → Out :=
 (seqO (setS 3 (appF g_rolled (aC (varD 0) (aC (varD 3) (aC (varD 1) (aC (bin2 idxR (varD 2) (varD 5)) (aC (bin2 idxR (varD 2) (bin2 addR (varD 5) (varD 1))) a0)))))))
 (mutS 4 appM (aC (varD 3) a0)))
noncomputable def F_rolled_sums : DS → Out :=
 (seqO (ifS (cmpT ltR (appF lenR (aC (varD 2) a0)) (varD 1)) (retS (appF lstR a0)) Out.nx)
 (seqO (setS 3 (appF g_first_sum (aC (varD 0) (aC (slF (varD 2) noP (someP (varD 1))) a0))))
 (seqO (ownS 4 (aC (varD 3) a0))
 (seqO (forS (rng1 (aC (bin2 subR (appF lenR (aC (varD 2) a0)) (varD 1)) a0)) (tgN 5) L_rolled_sums_1)
 (shareS' (retS (varD 4)))))))
noncomputable def g_rolled_sums : List D → Rs D := fnX 3 3 F_rolled_sums

noncomputable def F_cut_places : DS → Out :=
 (seqO (exprS (appF g_check_key (aC (varD 0) a0)))
 (seqO (exprS (appF g_check_size (aC (varD 1) a0)))
 (seqO (exprS (appF g_check_size (aC (varD 2) a0)))
 (seqO (exprS (appF g_check_text (aC (varD 3) a0)))
 (seqO (setS 4 (appF g_rolled_sums (aC (varD 0) (aC (varD 1) (aC (varD 3) a0)))))
 (retS (compF2 [("window", 1), ("part", 2)] (enumF (varD 4)) (bin2 addR (varD 0) (varD 2)) (cmpT eqR (bin2 modR (bin2 addR (bin2 idxR (varD 1) (cD (.int 0))) (bin2 idxR (varD 1) (cD (.int 1)))) (varD 3)) (cD (.int 0))))))))))
noncomputable def g_cut_places : List D → Rs D := fnX 4 1 F_cut_places

noncomputable def L_stretches_1 : DS → Out :=
 (seqO (mutS 4 appM (aC (slF (varD 3) (someP (varD 5)) (someP (varD 6))) a0))
 (setS 5 (varD 6)))
noncomputable def F_stretches : DS → Out :=
 (seqO (ownS 4 a0)
 (seqO (setS 5 (cD (.int 0)))
 (seqO (forS (itF (appF g_cut_places (aC (varD 0) (aC (varD 1) (aC (varD 2) (aC (varD 3) a0)))))) (tgN 6) L_stretches_1)
 (seqO (ifS (cmpT ltR (varD 5) (appF lenR (aC (varD 3) a0))) (mutS 4 appM (aC (slF (varD 3) (someP (varD 5)) noP) a0)) Out.nx)
 (shareS' (retS (varD 4)))))))
noncomputable def g_stretches : List D → Rs D := fnX 4 3 F_stretches

noncomputable def F_found_by_cuts : DS → Out :=
 (seqO (setS 5 (appF g_first_places (aC (appF g_stretches (aC (varD 0) (aC (varD 1) (aC (varD 2) (aC (varD 3) a0))))) a0)))
 (retS (appF g_plain (aC (compF [("places", 5)] (itF (appF g_stretches (aC (varD 0) (aC (varD 1) (aC (varD 2) (aC (varD 4) a0)))))) (fun _ => .bad) tt) a0))))
noncomputable def g_found_by_cuts : List D → Rs D := fnX 5 1 F_found_by_cuts

noncomputable def F__law_with_key : DS → Out :=
 (seqO (ifS (cmpT ltR (varD 0) (cD (.int 3))) (retS (callLF [g_first_sum, g_second_sum, g_whole_sum] (varD 0) (aC (varD 1) (aC (varD 3) a0)))) Out.nx)
 (seqO (ifS (cmpT eqR (varD 0) (cD (.int 3))) (retS (appF g_rolled (aC (varD 1) (aC (appF tupR (aC (cD (.int 0)) (aC (cD (.int 0)) a0))) (aC (cD (.int 1)) (aC (cD (.str "a")) (aC (cD (.str "b")) a0))))))) Out.nx)
 (seqO (ifS (cmpT eqR (varD 0) (cD (.int 4))) (retS (appF g_cards (aC (varD 1) (aC (varD 2) (aC (varD 3) a0))))) Out.nx)
 (seqO (ifS (cmpT eqR (varD 0) (cD (.int 5))) (retS (appF g_found_by (aC (varD 1) (aC (varD 2) (aC (appF lstR a0) (aC (varD 3) a0)))))) Out.nx)
 (seqO (ifS (cmpT eqR (varD 0) (cD (.int 6))) (retS (appF g_talk (aC (varD 1) (aC (varD 2) (aC (varD 3) (aC (varD 3) a0)))))) Out.nx)
 (seqO (ifS (cmpT eqR (varD 0) (cD (.int 7))) (retS (appF g_found_by_cuts (aC (varD 1) (aC (varD 2) (aC (varD 2) (aC (varD 3) (aC (varD 3) a0))))))) Out.nx)
 (retS (callLF [g_cut_places, g_stretches] (bin2 modR (varD 0) (cD (.int 2))) (aC (varD 1) (aC (varD 2) (aC (varD 2) (aC (varD 3) a0))))))))))))
noncomputable def g__law_with_key : List D → Rs D := fnX 4 0 F__law_with_key

noncomputable def F__law_with_size : DS → Out :=
 (seqO (ifS (cmpT eqR (varD 0) (cD (.int 0))) (retS (appF g_cards (aC (varD 1) (aC (varD 2) (aC (varD 3) a0))))) Out.nx)
 (seqO (ifS (cmpT eqR (varD 0) (cD (.int 1))) (retS (appF g_found_by (aC (varD 1) (aC (varD 2) (aC (appF lstR a0) (aC (varD 3) a0)))))) Out.nx)
 (seqO (ifS (cmpT eqR (varD 0) (cD (.int 2))) (retS (appF g_talk (aC (varD 1) (aC (varD 2) (aC (varD 3) (aC (varD 3) a0)))))) Out.nx)
 (seqO (ifS (cmpT ltR (varD 0) (cD (.int 5))) (retS (appF g_found_by_cuts (aC (varD 1) (aC (bin2 idxR (appF lstR (aC (varD 2) (aC (cD (.int 1)) a0))) (bin2 modR (varD 0) (cD (.int 2)))) (aC (bin2 idxR (appF lstR (aC (cD (.int 1)) (aC (varD 2) a0))) (bin2 modR (varD 0) (cD (.int 2)))) (aC (varD 3) (aC (varD 3) a0))))))) Out.nx)
 (seqO (ifS (cmpT ltR (varD 0) (cD (.int 7))) (retS (appF g_cut_places (aC (varD 1) (aC (bin2 idxR (appF lstR (aC (varD 2) (aC (cD (.int 1)) a0))) (bin2 modR (varD 0) (cD (.int 2)))) (aC (bin2 idxR (appF lstR (aC (cD (.int 1)) (aC (varD 2) a0))) (bin2 modR (varD 0) (cD (.int 2)))) (aC (varD 3) a0)))))) Out.nx)
 (retS (appF g_stretches (aC (varD 1) (aC (bin2 idxR (appF lstR (aC (varD 2) (aC (cD (.int 1)) a0))) (bin2 modR (varD 0) (cD (.int 2)))) (aC (bin2 idxR (appF lstR (aC (cD (.int 1)) (aC (varD 2) a0))) (bin2 modR (varD 0) (cD (.int 2)))) (aC (varD 3) a0)))))))))))
noncomputable def g__law_with_size : List D → Rs D := fnX 4 0 F__law_with_size

noncomputable def F_least : DS → Out :=
 (seqO (exprS (appF g_check_text (aC (varD 0) a0)))
 (seqO (exprS (appF g_check_text (aC (varD 1) a0)))
 badS))
noncomputable def g_least : List D → Rs D := fnX 2 0 F_least

noncomputable def F_mended : DS → Out :=
 (seqO (exprS (appF g_check_text (aC (varD 0) a0)))
 (seqO (exprS (appF g_check_letter (aC (varD 1) a0)))
 badS))
noncomputable def g_mended : List D → Rs D := fnX 2 0 F_mended

noncomputable def F_back : DS → Out :=
 (retS (appF (fun _ => .bad) (aC (appF g_mended (aC (varD 0) (aC (varD 1) a0))) (aC (varD 0) a0))))
noncomputable def g_back : List D → Rs D := fnX 2 0 F_back

noncomputable def F__law_with_text : DS → Out :=
 (seqO (ifS (cmpT ltR (varD 0) (cD (.int 3))) (retS (callLF [g_first_sum, g_second_sum, g_whole_sum] (varD 0) (aC (varD 1) (aC (varD 2) a0)))) Out.nx)
 (seqO (ifS (cmpT eqR (varD 0) (cD (.int 3))) (retS (appF g_cards (aC (varD 1) (aC (cD (.int 2)) (aC (varD 2) a0))))) Out.nx)
 (seqO (ifS (cmpT eqR (varD 0) (cD (.int 4))) (retS (appF g_found_by (aC (varD 1) (aC (cD (.int 2)) (aC (appF lstR a0) (aC (varD 2) a0)))))) Out.nx)
 (seqO (ifS (cmpT ltR (varD 0) (cD (.int 7))) (retS (appF g_talk (aC (varD 1) (aC (cD (.int 2)) (aC (bin2 idxR (appF lstR (aC (varD 2) (aC (cD (.str "ab")) a0))) (bin2 modR (varD 0) (cD (.int 2)))) (aC (bin2 idxR (appF lstR (aC (cD (.str "ab")) (aC (varD 2) a0))) (bin2 modR (varD 0) (cD (.int 2)))) a0)))))) Out.nx)
 (seqO (ifS (cmpT ltR (varD 0) (cD (.int 9))) (retS (appF g_least (aC (bin2 idxR (appF lstR (aC (varD 2) (aC (cD (.str "ab")) a0))) (bin2 modR (varD 0) (cD (.int 2)))) (aC (bin2 idxR (appF lstR (aC (cD (.str "ab")) (aC (varD 2) a0))) (bin2 modR (varD 0) (cD (.int 2)))) a0)))) Out.nx)
 (seqO (ifS (cmpT ltR (varD 0) (cD (.int 11))) (retS (appF g_found_by_cuts (aC (varD 1) (aC (cD (.int 2)) (aC (cD (.int 2)) (aC (bin2 idxR (appF lstR (aC (varD 2) (aC (cD (.str "ab")) a0))) (bin2 modR (varD 0) (cD (.int 2)))) (aC (bin2 idxR (appF lstR (aC (cD (.str "ab")) (aC (varD 2) a0))) (bin2 modR (varD 0) (cD (.int 2)))) a0))))))) Out.nx)
 (seqO (ifS (cmpT eqR (varD 0) (cD (.int 11))) (retS (appF g_mended (aC (varD 2) (aC (varD 3) a0)))) Out.nx)
 (seqO (ifS (cmpT eqR (varD 0) (cD (.int 12))) (retS (appF g_back (aC (varD 2) (aC (varD 3) a0)))) Out.nx)
 (retS (callLF [g_cut_places, g_stretches] (bin2 modR (varD 0) (cD (.int 2))) (aC (varD 1) (aC (cD (.int 2)) (aC (cD (.int 2)) (aC (varD 2) a0))))))))))))))
noncomputable def g__law_with_text : List D → Rs D := fnX 4 0 F__law_with_text

noncomputable def F_checked : DS → Out :=
 (seqO (exprS (appF g_check_letter (aC (varD 0) a0)))
 badS)
noncomputable def g_checked : List D → Rs D := fnX 1 0 F_checked

noncomputable def F_cost : DS → Out :=
 (seqO (exprS (appF g_check_letter (aC (varD 0) a0)))
 badS)
noncomputable def g_cost : List D → Rs D := fnX 1 0 F_cost

noncomputable def F_shown : DS → Out :=
 (seqO (exprS (appF g_check_letter (aC (varD 0) a0)))
 badS)
noncomputable def g_shown : List D → Rs D := fnX 1 0 F_shown

noncomputable def F_behind : DS → Out :=
 (seqO (exprS (appF g_check_letter (aC (varD 0) a0)))
 (seqO (exprS (appF g_check_letter (aC (varD 1) a0)))
 (seqO badS
 (seqO badS
 (seqO badS
 badS)))))
noncomputable def g_behind : List D → Rs D := fnX 2 3 F_behind

noncomputable def F__law_with_letter : DS → Out :=
 (seqO (ifS (cmpT ltR (varD 0) (cD (.int 4))) (retS (callLF [g_checked, g_cost, g_plain, g_shown] (varD 0) (aC (varD 1) a0))) Out.nx)
 (seqO (ifS (cmpT ltR (varD 0) (cD (.int 6))) (retS (callLF [g_mended, g_back] (bin2 modR (varD 0) (cD (.int 2))) (aC (cD (.str "ab")) (aC (varD 1) a0)))) Out.nx)
 (retS (appF g_behind (aC (bin2 idxR (appF lstR (aC (varD 1) (aC (appF lstR (aC (appF tupR (aC (cD (.str "copy")) (aC (cD (.int 5)) (aC (cD (.int 9)) a0)))) a0)) a0))) (bin2 modR (varD 0) (cD (.int 2)))) (aC (bin2 idxR (appF lstR (aC (appF lstR (aC (appF tupR (aC (cD (.str "copy")) (aC (cD (.int 5)) (aC (cD (.int 9)) a0)))) a0)) (aC (varD 1) a0))) (bin2 modR (varD 0) (cD (.int 2)))) a0))))))
noncomputable def g__law_with_letter : List D → Rs D := fnX 2 0 F__law_with_letter

noncomputable def F__law_case : DS → Out :=
 (seqO (setS 2 (bin2 fdivR (varD 1) (cD (.int 1000))))
 (seqO (setS 3 (appF g__law_bad (aC (varD 0) (aC (varD 1) a0))))
 (seqO (setS 4 (appF tupR (aC (cD (.int 7)) (aC (cD (.int 3)) (aC (cD (.int 101)) a0)))))
 (seqO (setS 5 (bin2 idxR (bin2 idxR (appF lstR (aC (appF lstR (aC (cD (.str "ab")) (aC (cD .non) a0))) (aC (appF lstR (aC (cD (.int 2)) (aC (cD .non) a0))) a0))) (appF intR (aC (bin2 eqR (varD 0) (cD (.int 0))) a0))) (bin2 modR (bin2 fdivR (varD 1) (cD (.int 500))) (cD (.int 2)))))
 (seqO (ifS (cmpT eqR (varD 0) (cD (.int 0))) (retS (appF g__law_with_key (aC (bin2 modR (varD 2) (cD (.int 10))) (aC (varD 3) (aC (varD 5) (aC (bin2 idxR (appF lstR (aC (cD .non) (aC (cD (.str "ab")) a0))) (appF intR (aC (bin2 eqR (varD 5) (cD (.int 2))) a0))) a0)))))) Out.nx)
 (seqO (ifS (cmpT eqR (varD 0) (cD (.int 1))) (retS (appF g__law_with_size (aC (bin2 modR (varD 2) (cD (.int 9))) (aC (varD 4) (aC (varD 3) (aC (varD 5) a0)))))) Out.nx)
 (seqO (ifS (cmpT eqR (varD 0) (cD (.int 2))) (retS (appF g__law_with_text (aC (bin2 modR (varD 2) (cD (.int 15))) (aC (varD 4) (aC (varD 3) (aC (bin2 idxR (appF lstR (aC (appF lstR a0) (aC (cD .non) a0))) (bin2 modR (bin2 fdivR (varD 1) (cD (.int 500))) (cD (.int 2)))) a0)))))) Out.nx)
 (seqO (ifS (cmpT eqR (varD 0) (cD (.int 3))) (retS (appF g__law_with_letter (aC (bin2 modR (varD 2) (cD (.int 8))) (aC (varD 3) a0)))) Out.nx)
 (retS (appF g_found_by (aC (varD 4) (aC (cD (.int 2)) (aC (varD 3) (aC (varD 5) a0))))))))))))))
noncomputable def g__law_case : List D → Rs D := fnX 2 4 F__law_case

noncomputable def F_law : DS → Out :=
 (seqO (setS 1 (appF g__law_mixed (aC (varD 0) (aC (cD (.int 0)) (aC (cD (.int 5)) a0)))))
 (seqO (tryS ["NoCards", "NoKey", "NoLetter", "NoSigns", "NoSize"] 2 (exprS (appF g__law_case (aC (varD 1) (aC (appF g__law_mixed (aC (varD 0) (aC (cD (.int 1)) (aC (bin2 powR (cD (.int 10)) (cD (.int 6))) a0)))) a0)))) (seqO (ownS 3 (aC (iszF [("NoCards", false), ("NoKey", true), ("NoLetter", false), ("NoSigns", false), ("NoSize", false)] (varD 2)) (aC (iszF [("NoCards", false), ("NoKey", false), ("NoLetter", false), ("NoSigns", false), ("NoSize", true)] (varD 2)) (aC (iszF [("NoCards", false), ("NoKey", false), ("NoLetter", false), ("NoSigns", true), ("NoSize", false)] (varD 2)) (aC (iszF [("NoCards", false), ("NoKey", false), ("NoLetter", true), ("NoSigns", false), ("NoSize", false)] (varD 2)) a0)))))
 (seqO (mutS 3 extM (aC (appF lstR (aC (iszF [("NoCards", true), ("NoKey", false), ("NoLetter", false), ("NoSigns", false), ("NoSize", false)] (varD 2)) (aC (iszF [("NoCards", false), ("NoKey", false), ("NoLetter", false), ("NoSigns", false), ("NoSize", false)] (varD 2)) (aC (iszF [("NoCards", false), ("NoKey", false), ("NoLetter", false), ("NoSigns", false), ("NoSize", false)] (varD 2)) a0)))) a0))
 (shareS' (retS (andV (isxF ["NoCards", "NoKey", "NoLetter", "NoSigns", "NoSize"] (varD 2)) (andV (bin2 eqR (methL cntR (varD 3) (aC (cD (.bl true)) a0)) (cD (.int 1))) (bin2 eqR (methL ixbR (varD 3) (aC (cD (.bl true)) a0)) (varD 1)))))))))
 badS))
noncomputable def g_law : List D → Rs D := fnR 1 3 F_law

end A

namespace A
open PySem PySem.Spec PyProof.Rows L2 M
set_option autoImplicit false
noncomputable def scr (ns : List Int) : D := .lst (ns.map D.int)
theorem eqBs_ints : ∀ ns : List Int, eqBs (ns.map D.int) [] = ns.isEmpty
 | [] => rfl
 | _ :: _ => rfl
theorem cell_ok (ns : List Int) (k : Nat) : ∃ z, g__law_cell_at [scr ns, .int k] = .ok (.int z) := by
 unfold g__law_cell_at
 simp only [s_fn2]
 unfold F__law_cell_at scr
 obtain ⟨L, hL⟩ : ∃ L, L = ns.map D.int := ⟨_, rfl⟩
 have hl : L.length = ns.length := by rw [hL, List.length_map]
 have hq : eqR (.lst L) (.lst []) = .ok (.bl ns.isEmpty) := by rw [eq_r (by decide) (by rw [hL, lay_lst]; exact layL_map (fun _ => lay_int _) ns) (by simp), hL, eqB_lst, eqBs_ints]
 have hi : ∀ i (h : i < ns.length), idxR (.lst L) (.int i) = .ok (.int ns[i]) := fun i h => ix_lst (by rw [hL]; simp [h])
 rw [← hL]
 by_cases h : k < ns.length
 ·refine ⟨ns[k], ?_⟩
  simp [hl, h, hi k h]
 ·have h' : ¬ ((k : Int) < (ns.length : Int)) := by omega
  by_cases h0 : ns.length = 0
  ·have e : ns.isEmpty = true := by cases ns with | nil => rfl | cons => simp at h0
   exact ⟨0, by simp [hl, h, hq, e]⟩
  ·have e : ns.isEmpty = false := by cases ns with | nil => simp at h0 | cons => rfl
   have hp : (0 : Int) < (ns.length : Int) := by omega
   have hm : k % ns.length < ns.length := Nat.mod_lt _ (by omega)
   have e1 := hi _ hm
   rw [Int.natCast_emod] at e1
   have e2 := mul_r (i := ns[k % ns.length]) (j := 31) (by decide)
   exact ⟨ns[k % ns.length] * 31 + k, by simp [hl, h, hq, e, s_mod hp, e1, e2]⟩
theorem mixed_ok (ns : List Int) (k : Nat) {m : Int} (hm : 0 < m) : ∃ z, g__law_mixed [scr ns, .int k, .int m] = .ok (.int z) ∧ 0 ≤ z ∧ z < m := by
 obtain ⟨c, hc⟩ := cell_ok ns k
 unfold g__law_mixed
 simp only [s_fn3]
 unfold F__law_mixed
 obtain ⟨d, hd⟩ : ∃ d, d = (c + 7919 * (k : Int) + 1) * 48271 % 2147483647 := ⟨_, rfl⟩
 have hd1 : 0 ≤ d := by rw [hd]; exact Int.emod_nonneg _ (by decide)
 have hd2 : d < 2147483647 := by rw [hd]; exact Int.emod_lt_of_pos _ (by decide)
 refine ⟨(d * d + 7 * d + k) % 2147483629 % m, ?_, Int.emod_nonneg _ (by omega), Int.emod_lt_of_pos _ hm⟩
 have e1 := mul_l (i := 7919) (j := (k : Int)) (by decide)
 have e2 := mul_r (i := c + 7919 * (k : Int) + 1) (j := 48271) (by decide)
 have e3 := mul_l (i := d) (j := d) (by omega)
 have e4 := mul_l (i := 7) (j := d) (by decide)
 have e5 := s_mod (i := (c + 7919 * (k : Int) + 1) * 48271) (j := 2147483647) (by decide)
 rw [← hd] at e5
 have e6 := s_mod (i := d * d + 7 * d + k) (j := 2147483629) (by decide)
 simp [hc, e1, e2, e3, e4, e5, e6, s_mod hm]
noncomputable abbrev okc (c : Nat) : Prop := 32 ≤ c ∧ c ≤ 126 ∧ c ≠ 37
noncomputable def Good (n : Nat) (t : Str) : Prop := t.length ≤ n ∧ ∀ c ∈ t.cps.toList, okc c
theorem len_app (a b : Str) : (a ++ b).length = a.length + b.length := by simp [Str.length, show (a ++ b).cps = a.cps ++ b.cps from rfl]
structure KeyOk (few times many : Int) : Prop where
 f1 : 1 ≤ few
 f2 : few ≤ 999
 t1 : 1 ≤ times
 t2 : times ≤ 999
 m1 : 1 ≤ many
 m2 : many ≤ 99999
noncomputable def keyD (few times many : Int) : D := .tup [.int few, .int times, .int many]
theorem is_within_ok {i lo hi : Int} (h1 : lo ≤ i) (h2 : i ≤ hi) : g_is_within [.int i, .int lo, .int hi] = .ok (.bl true) := by
 simp [g_is_within, F_is_within, g_is_from, F_is_from, g_is_whole, F_is_whole, h1, h2]
theorem check_key_ok {few times many : Int} (h : KeyOk few times many) : g_check_key [keyD few times many] = .ok .non := by
 have e1 := is_within_ok h.f1 h.f2
 have e2 := is_within_ok h.t1 h.t2
 have e3 := is_within_ok h.m1 h.m2
 simp [g_check_key, F_check_key, g_is_key, F_is_key, keyD, e1, e2, e3]
theorem is_sign_ok {c : Nat} (h : okc c) : g_is_sign [.str (chr1 c)] = .ok (.bl true) := by
 obtain ⟨h1, h2, h3⟩ := h
 have e1 : (32 : Int) ≤ c := by omega
 have e2 : (c : Int) ≤ 126 := by omega
 have e3 : ¬ (c : Int) = 37 := by omega
 simp [g_is_sign, F_is_sign, e1, e2, e3]
theorem signs_len (t : Str) : (signsD t).length = t.length := by simp [signsD, Str.length]
theorem is_text_ok {t : Str} (h : Good 2000 t) : g_is_text [.str t] = .ok (.bl true) := by
 have h1 : ¬ ((2000 : Int) < (t.length : Int)) := by have := h.1; omega
 have e1 : compL (fun d => g_is_sign [d]) (fun _ => .ok true) (signsD t) = .ok (t.cps.toList.map fun _ => D.bl true) := comp_list _ (fun _ => D.bl true) fun c hc => is_sign_ok (h.2 c hc)
 have e2 : bigR (signsD t) (.ok (t.cps.toList.map fun _ => D.bl true)) = .ok (.lst (t.cps.toList.map fun _ => D.bl true)) := big_ok (by rw [signs_len]; have := h.1; omega)
 have e3 : allR [.lst (t.cps.toList.map fun _ => D.bl true)] = .ok (.bl true) := by
  unfold allR
  dsimp only
  rw [boolsOf_map (fun _ => true)]
  simp
 simp [g_is_text, F_is_text, h1, e1, e2, e3]
theorem check_text_ok {t : Str} (h : Good 2000 t) : g_check_text [.str t] = .ok .non := by
 simp [g_check_text, F_check_text, is_text_ok h]
theorem key_bad {d : D} (h : g_is_key [d] = .ok (.bl false)) : g_check_key [d] = .exc "NoKey" := by
 simp [g_check_key, F_check_key, h]
theorem size_bad {d : D} (h : g_is_within [d, .int 1, .int 200] = .ok (.bl false)) : g_check_size [d] = .exc "NoSize" := by
 simp [g_check_size, F_check_size, h]
theorem text_bad {d : D} (h : g_is_text [d] = .ok (.bl false)) : g_check_text [d] = .exc "NoSigns" := by
 simp [g_check_text, F_check_text, h]
theorem letter_bad {d : D} (h : g_is_letter [d] = .ok (.bl false)) : g_check_letter [d] = .exc "NoLetter" := by
 simp [g_check_letter, F_check_letter, h]
section
variable {b : D} (hb : g_check_key [b] = .exc "NoKey")
include hb
theorem kb_first (t : D) : g_first_sum [b, t] = .exc "NoKey" := by simp [g_first_sum, F_first_sum, hb]
theorem kb_second (t : D) : g_second_sum [b, t] = .exc "NoKey" := by simp [g_second_sum, F_second_sum, hb]
theorem kb_whole (t : D) : g_whole_sum [b, t] = .exc "NoKey" := by simp [g_whole_sum, F_whole_sum, hb]
theorem kb_rolled (x y z u : D) : g_rolled [b, x, y, z, u] = .exc "NoKey" := by simp [g_rolled, F_rolled, hb]
theorem kb_cards (s t : D) : g_cards [b, s, t] = .exc "NoKey" := by simp [g_cards, F_cards, hb]
theorem kb_found (s t n : D) : g_found_by [b, s, t, n] = .exc "NoKey" := by simp [g_found_by, F_found_by, hb]
theorem kb_talk (s e n : D) : g_talk [b, s, e, n] = .exc "NoKey" := by simp [g_talk, F_talk, kb_cards hb]
theorem kb_cuts (s p t : D) : g_cut_places [b, s, p, t] = .exc "NoKey" := by simp [g_cut_places, F_cut_places, hb]
theorem kb_str (s p t : D) : g_stretches [b, s, p, t] = .exc "NoKey" := by simp [g_stretches, F_stretches, kb_cuts hb]
theorem kb_fbc (s p e n : D) : g_found_by_cuts [b, s, p, e, n] = .exc "NoKey" := by simp [g_found_by_cuts, F_found_by_cuts, kb_str hb]
theorem with_key {w : Nat} (hw : w < 10) (s t : D) : g__law_with_key [.int (w : Int), b, s, t] = .exc "NoKey" := by
 have c3 : ∀ (i : Nat), i < 3 → callLF [g_first_sum, g_second_sum, g_whole_sum] (varD 0) (aC (varD 1) (aC (varD 3) a0)) [some (.v (.int (i : Int))), some (.v b), some (.v s), some (.v t)] = .exc "NoKey" := fun i hi => by
  have : i = 0 ∨ i = 1 ∨ i = 2 := by omega
  rcases this with rfl | rfl | rfl
  ·rw [s_callLF _ _ _ _ 0 (by simp) rfl]; simp [kb_first hb]
  ·rw [s_callLF _ _ _ _ 1 (by simp) rfl]; simp [kb_second hb]
  ·rw [s_callLF _ _ _ _ 2 (by simp) rfl]; simp [kb_whole hb]
 have : w = 0 ∨ w = 1 ∨ w = 2 ∨ w = 3 ∨ w = 4 ∨ w = 5 ∨ w = 6 ∨ w = 7 ∨ w = 8 ∨ w = 9 := by omega
 rcases this with rfl | rfl | rfl | rfl | rfl | rfl | rfl | rfl | rfl | rfl
 ·have := c3 0 (by decide); simp [-s_callLF, g__law_with_key, F__law_with_key] at this ⊢; simp [this]
 ·have := c3 1 (by decide); simp [-s_callLF, g__law_with_key, F__law_with_key] at this ⊢; simp [this]
 ·have := c3 2 (by decide); simp [-s_callLF, g__law_with_key, F__law_with_key] at this ⊢; simp [this]
 ·simp [-s_callLF, g__law_with_key, F__law_with_key, kb_rolled hb]
 ·simp [-s_callLF, g__law_with_key, F__law_with_key, kb_cards hb]
 ·have l0 : lstR [] = .ok (.lst []) := rfl
  simp [-s_callLF, g__law_with_key, F__law_with_key, kb_found hb, l0]
 ·simp [-s_callLF, g__law_with_key, F__law_with_key, kb_talk hb]
 ·simp [-s_callLF, g__law_with_key, F__law_with_key, kb_fbc hb]
 ·have m : modR (.int 8) (.int 2) = .ok (.int 0) := s_mod (by decide)
  have := s_callLF [g_cut_places, g_stretches] (bin2 modR (varD 0) (cD (.int 2))) (aC (varD 1) (aC (varD 2) (aC (varD 2) (aC (varD 3) a0)))) [some (.v (.int 8)), some (.v b), some (.v s), some (.v t)] 0 (by simp [m]) rfl
  simp [kb_cuts hb] at this
  simp [-s_callLF, g__law_with_key, F__law_with_key, this]
 ·have m : modR (.int 9) (.int 2) = .ok (.int 1) := s_mod (by decide)
  have := s_callLF [g_cut_places, g_stretches] (bin2 modR (varD 0) (cD (.int 2))) (aC (varD 1) (aC (varD 2) (aC (varD 2) (aC (varD 3) a0)))) [some (.v (.int 9)), some (.v b), some (.v s), some (.v t)] 1 (by simp [m]) rfl
  simp [kb_str hb] at this
  simp [-s_callLF, g__law_with_key, F__law_with_key, this]
end
noncomputable def kD : D := .tup [.int 7, .int 3, .int 101]
theorem kD_ok : g_check_key [kD] = .ok .non := check_key_ok (few := 7) (times := 3) (many := 101) ⟨by decide, by decide, by decide, by decide, by decide, by decide⟩
theorem one_ok : g_check_size [.int 1] = .ok .non := by simp [g_check_size, F_check_size, is_within_ok]
theorem two_ok : g_check_size [.int 2] = .ok .non := by simp [g_check_size, F_check_size, is_within_ok]
section
variable {b : D} (hb : g_check_size [b] = .exc "NoSize")
include hb
theorem sb_cards (t : D) : g_cards [kD, b, t] = .exc "NoSize" := by simp [g_cards, F_cards, kD_ok, hb]
theorem sb_found (t n : D) : g_found_by [kD, b, t, n] = .exc "NoSize" := by simp [g_found_by, F_found_by, kD_ok, hb]
theorem sb_talk (e n : D) : g_talk [kD, b, e, n] = .exc "NoSize" := by simp [g_talk, F_talk, sb_cards hb]
theorem sb_cuts1 (p t : D) : g_cut_places [kD, b, p, t] = .exc "NoSize" := by simp [g_cut_places, F_cut_places, kD_ok, hb]
theorem sb_cuts2 (t : D) : g_cut_places [kD, .int 1, b, t] = .exc "NoSize" := by simp [g_cut_places, F_cut_places, kD_ok, one_ok, hb]
theorem sb_str1 (p t : D) : g_stretches [kD, b, p, t] = .exc "NoSize" := by simp [g_stretches, F_stretches, sb_cuts1 hb]
theorem sb_str2 (t : D) : g_stretches [kD, .int 1, b, t] = .exc "NoSize" := by simp [g_stretches, F_stretches, sb_cuts2 hb]
theorem sb_fbc1 (p e n : D) : g_found_by_cuts [kD, b, p, e, n] = .exc "NoSize" := by simp [g_found_by_cuts, F_found_by_cuts, sb_str1 hb]
theorem sb_fbc2 (e n : D) : g_found_by_cuts [kD, .int 1, b, e, n] = .exc "NoSize" := by simp [g_found_by_cuts, F_found_by_cuts, sb_str2 hb]
theorem with_size {w : Nat} (hw : w < 9) (t : D) : g__law_with_size [.int (w : Int), kD, b, t] = .exc "NoSize" := by
 have l2 : ∀ a b : D, lstR [a, b] = .ok (.lst [a, b]) := fun _ _ => rfl
 have i0 : ∀ a c : D, idxR (.lst [a, c]) (.int 0) = .ok a := fun a c => ix_lst (i := 0) rfl
 have i1 : ∀ a c : D, idxR (.lst [a, c]) (.int 1) = .ok c := fun a c => ix_lst (i := 1) rfl
 have l0 : lstR [] = .ok (.lst []) := rfl
 have m3 : modR (.int 3) (.int 2) = .ok (.int 1) := s_mod (by decide)
 have m4 : modR (.int 4) (.int 2) = .ok (.int 0) := s_mod (by decide)
 have m5 : modR (.int 5) (.int 2) = .ok (.int 1) := s_mod (by decide)
 have m6 : modR (.int 6) (.int 2) = .ok (.int 0) := s_mod (by decide)
 have m7 : modR (.int 7) (.int 2) = .ok (.int 1) := s_mod (by decide)
 have m8 : modR (.int 8) (.int 2) = .ok (.int 0) := s_mod (by decide)
 have : w = 0 ∨ w = 1 ∨ w = 2 ∨ w = 3 ∨ w = 4 ∨ w = 5 ∨ w = 6 ∨ w = 7 ∨ w = 8 := by omega
 have a1 := sb_cards hb
 have a2 := sb_found hb
 have a3 := sb_talk hb
 have a4 := sb_fbc1 hb
 have a5 := sb_fbc2 hb
 have a6 := sb_cuts1 hb
 have a7 := sb_cuts2 hb
 have a8 := sb_str1 hb
 have a9 := sb_str2 hb
 generalize kD = K at *
 rcases this with rfl | rfl | rfl | rfl | rfl | rfl | rfl | rfl | rfl
 ·simp [g__law_with_size, F__law_with_size, a1]
 ·simp [g__law_with_size, F__law_with_size, a2, l0]
 ·simp [g__law_with_size, F__law_with_size, a3]
 ·simp [g__law_with_size, F__law_with_size, m3, l2, i0, i1, a5]
 ·simp [g__law_with_size, F__law_with_size, m4, l2, i0, i1, a4]
 ·simp [g__law_with_size, F__law_with_size, m5, l2, i0, i1, a7]
 ·simp [g__law_with_size, F__law_with_size, m6, l2, i0, i1, a6]
 ·simp [g__law_with_size, F__law_with_size, m7, l2, i0, i1, a9]
 ·simp [g__law_with_size, F__law_with_size, m8, l2, i0, i1, a8]
end
section
variable {b : D} (hb : g_check_letter [b] = .exc "NoLetter") (ht : g_check_text [.str "ab"] = .ok .non) (hl : g_check_letter [.lst [.tup [.str "copy", .int 5, .int 9]]] = .ok .non)
include hb
theorem lb_checked : g_checked [b] = .exc "NoLetter" := by simp [g_checked, F_checked, hb]
theorem lb_cost : g_cost [b] = .exc "NoLetter" := by simp [g_cost, F_cost, hb]
theorem lb_plain : g_plain [b] = .exc "NoLetter" := by simp [g_plain, F_plain, hb]
theorem lb_shown : g_shown [b] = .exc "NoLetter" := by simp [g_shown, F_shown, hb]
theorem lb_behind1 (o : D) : g_behind [b, o] = .exc "NoLetter" := by simp [g_behind, F_behind, hb]
include ht
theorem lb_mended : g_mended [.str "ab", b] = .exc "NoLetter" := by simp [g_mended, F_mended, hb, ht]
theorem lb_back : g_back [.str "ab", b] = .exc "NoLetter" := by simp [g_back, F_back, lb_mended hb ht]
include hl
theorem lb_behind2 : g_behind [.lst [.tup [.str "copy", .int 5, .int 9]], b] = .exc "NoLetter" := by simp [g_behind, F_behind, hb, hl]
theorem with_letter {w : Nat} (hw : w < 8) : g__law_with_letter [.int (w : Int), b] = .exc "NoLetter" := by
 have l1 : ∀ a : D, lstR [a] = .ok (.lst [a]) := fun _ => rfl
 have l2 : ∀ a b : D, lstR [a, b] = .ok (.lst [a, b]) := fun _ _ => rfl
 have i0 : ∀ a c : D, idxR (.lst [a, c]) (.int 0) = .ok a := fun a c => ix_lst (i := 0) rfl
 have i1 : ∀ a c : D, idxR (.lst [a, c]) (.int 1) = .ok c := fun a c => ix_lst (i := 1) rfl
 have m4 : modR (.int 4) (.int 2) = .ok (.int 0) := s_mod (by decide)
 have m5 : modR (.int 5) (.int 2) = .ok (.int 1) := s_mod (by decide)
 have m6 : modR (.int 6) (.int 2) = .ok (.int 0) := s_mod (by decide)
 have m7 : modR (.int 7) (.int 2) = .ok (.int 1) := s_mod (by decide)
 have c4 : ∀ (i : Nat), i < 4 → callLF [g_checked, g_cost, g_plain, g_shown] (varD 0) (aC (varD 1) a0) [some (.v (.int (i : Int))), some (.v b)] = .exc "NoLetter" := fun i hi => by
  have : i = 0 ∨ i = 1 ∨ i = 2 ∨ i = 3 := by omega
  rcases this with rfl | rfl | rfl | rfl
  ·rw [s_callLF _ _ _ _ 0 (by simp) rfl]; simp [lb_checked hb]
  ·rw [s_callLF _ _ _ _ 1 (by simp) rfl]; simp [lb_cost hb]
  ·rw [s_callLF _ _ _ _ 2 (by simp) rfl]; simp [lb_plain hb]
  ·rw [s_callLF _ _ _ _ 3 (by simp) rfl]; simp [lb_shown hb]
 have : w = 0 ∨ w = 1 ∨ w = 2 ∨ w = 3 ∨ w = 4 ∨ w = 5 ∨ w = 6 ∨ w = 7 := by omega
 rcases this with rfl | rfl | rfl | rfl | rfl | rfl | rfl | rfl
 ·have := c4 0 (by decide); simp [-s_callLF, g__law_with_letter, F__law_with_letter] at this ⊢; simp [this]
 ·have := c4 1 (by decide); simp [-s_callLF, g__law_with_letter, F__law_with_letter] at this ⊢; simp [this]
 ·have := c4 2 (by decide); simp [-s_callLF, g__law_with_letter, F__law_with_letter] at this ⊢; simp [this]
 ·have := c4 3 (by decide); simp [-s_callLF, g__law_with_letter, F__law_with_letter] at this ⊢; simp [this]
 ·have := s_callLF [g_mended, g_back] (bin2 modR (varD 0) (cD (.int 2))) (aC (cD (.str "ab")) (aC (varD 1) a0)) [some (.v (.int 4)), some (.v b)] 0 (by simp [m4]) rfl
  simp [lb_mended hb ht] at this
  simp [-s_callLF, g__law_with_letter, F__law_with_letter, this]
 ·have := s_callLF [g_mended, g_back] (bin2 modR (varD 0) (cD (.int 2))) (aC (cD (.str "ab")) (aC (varD 1) a0)) [some (.v (.int 5)), some (.v b)] 1 (by simp [m5]) rfl
  simp [lb_back hb ht] at this
  simp [-s_callLF, g__law_with_letter, F__law_with_letter, this]
 ·have a1 := lb_behind1 hb
  simp [-s_callLF, g__law_with_letter, F__law_with_letter, m6, l1, l2, i0, i1, a1]
 ·have a1 := lb_behind2 hb ht hl
  simp [-s_callLF, g__law_with_letter, F__law_with_letter, m7, l1, l2, i0, i1, a1]
end
section
variable {b : D} (hb : g_check_text [b] = .exc "NoSigns")
include hb
theorem tb_first : g_first_sum [kD, b] = .exc "NoSigns" := by simp [g_first_sum, F_first_sum, kD_ok, hb]
theorem tb_second : g_second_sum [kD, b] = .exc "NoSigns" := by simp [g_second_sum, F_second_sum, kD_ok, hb]
theorem tb_whole : g_whole_sum [kD, b] = .exc "NoSigns" := by simp [g_whole_sum, F_whole_sum, kD_ok, hb]
theorem tb_cards : g_cards [kD, .int 2, b] = .exc "NoSigns" := by simp [g_cards, F_cards, kD_ok, two_ok, hb]
theorem tb_found {t : D} (ht : g_check_cards [t] = .ok .non) : g_found_by [kD, .int 2, t, b] = .exc "NoSigns" := by simp [g_found_by, F_found_by, kD_ok, two_ok, ht, hb]
theorem tb_talk1 (n : D) : g_talk [kD, .int 2, b, n] = .exc "NoSigns" := by simp [g_talk, F_talk, tb_cards hb]
theorem tb_talk2 {t : D} (hc : g_cards [kD, .int 2, .str "ab"] = .ok t) (ht : g_check_cards [t] = .ok .non) : g_talk [kD, .int 2, .str "ab", b] = .exc "NoSigns" := by simp [g_talk, F_talk, hc, tb_found hb ht]
theorem tb_least1 (n : D) : g_least [b, n] = .exc "NoSigns" := by simp [g_least, F_least, hb]
theorem tb_least2 (ha : g_check_text [.str "ab"] = .ok .non) : g_least [.str "ab", b] = .exc "NoSigns" := by simp [g_least, F_least, ha, hb]
theorem tb_cuts : g_cut_places [kD, .int 2, .int 2, b] = .exc "NoSigns" := by simp [g_cut_places, F_cut_places, kD_ok, two_ok, hb]
theorem tb_str : g_stretches [kD, .int 2, .int 2, b] = .exc "NoSigns" := by simp [g_stretches, F_stretches, tb_cuts hb]
theorem tb_fbc1 (n : D) : g_found_by_cuts [kD, .int 2, .int 2, b, n] = .exc "NoSigns" := by simp [g_found_by_cuts, F_found_by_cuts, tb_str hb]
theorem tb_fbc2 {l d : D} (hs : g_stretches [kD, .int 2, .int 2, .str "ab"] = .ok l) (hp : g_first_places [l] = .ok d) : g_found_by_cuts [kD, .int 2, .int 2, .str "ab", b] = .exc "NoSigns" := by simp [g_found_by_cuts, F_found_by_cuts, hs, hp, tb_str hb]
theorem tb_mended (l : D) : g_mended [b, l] = .exc "NoSigns" := by simp [g_mended, F_mended, hb]
theorem tb_back (l : D) : g_back [b, l] = .exc "NoSigns" := by simp [g_back, F_back, tb_mended hb]
end
theorem ab_text : g_check_text [.str "ab"] = .ok .non := check_text_ok ⟨by decide, by decide⟩
theorem ab_cards : g_cards [kD, .int 2, .str "ab"] = .ok (.lst [.tup [.tup [.int 6, .int 5], .int 86]]) := by kernel_rfl
theorem ab_cards_ok : g_check_cards [.lst [.tup [.tup [.int 6, .int 5], .int 86]]] = .ok .non := by kernel_rfl
theorem no_cards_ok : g_check_cards [.lst []] = .ok .non := by kernel_rfl
theorem ab_str : g_stretches [kD, .int 2, .int 2, .str "ab"] = .ok (.lst [.str "ab"]) := by kernel_rfl
theorem ab_places : g_first_places [.lst [.str "ab"]] = .ok (.dct [.inr "ab"] [.int 0]) := by kernel_rfl
theorem ab_letter : g_check_letter [.lst [.tup [.str "copy", .int 5, .int 9]]] = .ok .non := by kernel_rfl
theorem with_text {b : D} (hb : g_check_text [b] = .exc "NoSigns") {w : Nat} (hw : w < 15) (l : D) : g__law_with_text [.int (w : Int), kD, b, l] = .exc "NoSigns" := by
 have l0 : lstR [] = .ok (.lst []) := rfl
 have l2 : ∀ a b : D, lstR [a, b] = .ok (.lst [a, b]) := fun _ _ => rfl
 have i0 : ∀ a c : D, idxR (.lst [a, c]) (.int 0) = .ok a := fun a c => ix_lst (i := 0) rfl
 have i1 : ∀ a c : D, idxR (.lst [a, c]) (.int 1) = .ok c := fun a c => ix_lst (i := 1) rfl
 have m5 : modR (.int 5) (.int 2) = .ok (.int 1) := s_mod (by decide)
 have m6 : modR (.int 6) (.int 2) = .ok (.int 0) := s_mod (by decide)
 have m7 : modR (.int 7) (.int 2) = .ok (.int 1) := s_mod (by decide)
 have m8 : modR (.int 8) (.int 2) = .ok (.int 0) := s_mod (by decide)
 have m9 : modR (.int 9) (.int 2) = .ok (.int 1) := s_mod (by decide)
 have m10 : modR (.int 10) (.int 2) = .ok (.int 0) := s_mod (by decide)
 have m13 : modR (.int 13) (.int 2) = .ok (.int 1) := s_mod (by decide)
 have m14 : modR (.int 14) (.int 2) = .ok (.int 0) := s_mod (by decide)
 have a1 := tb_first hb
 have a2 := tb_second hb
 have a3 := tb_whole hb
 have a4 := tb_cards hb
 have a5 := tb_found hb no_cards_ok
 have a6 := tb_talk1 hb
 have a7 := tb_talk2 hb ab_cards ab_cards_ok
 have a8 := tb_least1 hb
 have a9 := tb_least2 hb ab_text
 have b1 := tb_fbc1 hb
 have b2 := tb_fbc2 hb ab_str ab_places
 have b3 := tb_mended hb l
 have b4 := tb_back hb l
 have b5 := tb_cuts hb
 have b6 := tb_str hb
 generalize kD = K at *
 have c3 : ∀ (i : Nat), i < 3 → callLF [g_first_sum, g_second_sum, g_whole_sum] (varD 0) (aC (varD 1) (aC (varD 2) a0)) [some (.v (.int (i : Int))), some (.v K), some (.v b), some (.v l)] = .exc "NoSigns" := fun i hi => by
  have : i = 0 ∨ i = 1 ∨ i = 2 := by omega
  rcases this with rfl | rfl | rfl
  ·rw [s_callLF _ _ _ _ 0 (by simp) rfl]; simp [a1]
  ·rw [s_callLF _ _ _ _ 1 (by simp) rfl]; simp [a2]
  ·rw [s_callLF _ _ _ _ 2 (by simp) rfl]; simp [a3]
 have : w = 0 ∨ w = 1 ∨ w = 2 ∨ w = 3 ∨ w = 4 ∨ w = 5 ∨ w = 6 ∨ w = 7 ∨ w = 8 ∨ w = 9 ∨ w = 10 ∨ w = 11 ∨ w = 12 ∨ w = 13 ∨ w = 14 := by omega
 rcases this with rfl | rfl | rfl | rfl | rfl | rfl | rfl | rfl | rfl | rfl | rfl | rfl | rfl | rfl | rfl
 ·have := c3 0 (by decide); simp [-s_callLF, g__law_with_text, F__law_with_text] at this ⊢; simp [this]
 ·have := c3 1 (by decide); simp [-s_callLF, g__law_with_text, F__law_with_text] at this ⊢; simp [this]
 ·have := c3 2 (by decide); simp [-s_callLF, g__law_with_text, F__law_with_text] at this ⊢; simp [this]
 ·simp [-s_callLF, g__law_with_text, F__law_with_text, a4]
 ·simp [-s_callLF, g__law_with_text, F__law_with_text, l0, a5]
 ·simp [-s_callLF, g__law_with_text, F__law_with_text, m5, l2, i0, i1, a7]
 ·simp [-s_callLF, g__law_with_text, F__law_with_text, m6, l2, i0, i1, a6]
 ·simp [-s_callLF, g__law_with_text, F__law_with_text, m7, l2, i0, i1, a9]
 ·simp [-s_callLF, g__law_with_text, F__law_with_text, m8, l2, i0, i1, a8]
 ·simp [-s_callLF, g__law_with_text, F__law_with_text, m9, l2, i0, i1, b2]
 ·simp [-s_callLF, g__law_with_text, F__law_with_text, m10, l2, i0, i1, b1]
 ·simp [-s_callLF, g__law_with_text, F__law_with_text, b3]
 ·simp [-s_callLF, g__law_with_text, F__law_with_text, b4]
 ·have := s_callLF [g_cut_places, g_stretches] (bin2 modR (varD 0) (cD (.int 2))) (aC (varD 1) (aC (cD (.int 2)) (aC (cD (.int 2)) (aC (varD 2) a0)))) [some (.v (.int 13)), some (.v K), some (.v b), some (.v l)] 1 (by simp [m13]) rfl
  simp [b6] at this
  simp [-s_callLF, g__law_with_text, F__law_with_text, this]
 ·have := s_callLF [g_cut_places, g_stretches] (bin2 modR (varD 0) (cD (.int 2))) (aC (varD 1) (aC (cD (.int 2)) (aC (cD (.int 2)) (aC (varD 2) a0)))) [some (.v (.int 14)), some (.v K), some (.v b), some (.v l)] 0 (by simp [m14]) rfl
  simp [b5] at this
  simp [-s_callLF, g__law_with_text, F__law_with_text, this]

noncomputable def isF : Rs D → Bool
 | .ok (.bl false) => true
 | _ => false
theorem isF_of {r : Rs D} (h : isF r = true) : r = .ok (.bl false) := by
 unfold isF at h
 split at h
 ·rfl
 ·cases h
noncomputable def isE (c : Str) : Rs D → Bool
 | .exc x => x == c
 | _ => false
theorem isE_of {c : Str} {r : Rs D} (h : isE c r = true) : r = .exc c := by
 unfold isE at h
 split at h
 ·rw [eq_of_beq h]
 ·cases h
theorem modN (c n : Nat) (h : 0 < n) : modR (.int (c : Int)) (.int (n : Int)) = .ok (.int ((c % n : Nat) : Int)) := by rw [s_mod (by omega), Int.natCast_emod]
theorem fdivN (c n : Nat) (h : 0 < n ∧ n ≤ 1000) : fdivR (.int (c : Int)) (.int (n : Int)) = .ok (.int ((c / n : Nat) : Int)) := by rw [s_fdiv (by omega), Int.natCast_ediv]
theorem ix_mem (L : List D) {r : Nat} (h : r < L.length) : ∃ d ∈ L, idxR (.lst L) (.int (r : Int)) = .ok d := ⟨L[r], List.getElem_mem h, ix_lst (List.getElem?_eq_getElem h)⟩
theorem tup0 : tupR [] = .ok (.tup []) := rfl
theorem tup1 (a : D) : tupR [a] = .ok (.tup [a]) := rfl
theorem tup4 (a b c d : D) : tupR [a, b, c, d] = .ok (.tup [a, b, c, d]) := rfl
noncomputable def oddL : List D := [.int (-1), .bl true, .str "1", .non, .int 100000]
theorem ten5 : powR (.int 10) (.int 5) = .ok (.int 100000) := by kernel_rfl
theorem odd_ok (c : Nat) : ∃ z ∈ oddL, idxR (.lst oddL) (.int ((c / 7 % 5 : Nat) : Int)) = .ok z := ix_mem oddL (by simp [oddL]; omega)
noncomputable def bad0 (z y : D) : List D := [.lst [.int 1, .int 2, .int 3], .tup [.int 1, .int 2], .tup [.int 1, .int 2, .int 3, .int 4], .non, .tup [z, .int 2, .int 3], .tup [.int 1, z, .int 3], .tup [.int 1, .int 2, y]]
theorem bad_0 (c : Nat) : ∃ z ∈ oddL, ∃ y ∈ [z, D.int 0], ∃ d ∈ bad0 z y, g__law_bad [.int 0, .int (c : Int)] = .ok d := by
 have q := fdivN c 7 (by decide)
 have a := modN c 7 (by decide)
 have o := modN (c / 7) 5 (by decide)
 have h := modN (c / 7) 2 (by decide)
 obtain ⟨z, hz, ez⟩ := odd_ok c
 obtain ⟨y, hy, ey⟩ := ix_mem [z, D.int 0] (r := c / 7 % 2) (by simp; omega)
 obtain ⟨d, hd, ed⟩ := ix_mem (bad0 z y) (r := c % 7) (by simp [bad0]; omega)
 refine ⟨z, hz, y, hy, d, hd, ?_⟩
 have l1 : ∀ a : D, lstR [a] = .ok (.lst [a]) := fun _ => rfl
 have l2 : ∀ a b : D, lstR [a, b] = .ok (.lst [a, b]) := fun _ _ => rfl
 have l3 : ∀ a b c : D, lstR [a, b, c] = .ok (.lst [a, b, c]) := fun _ _ _ => rfl
 have l5 : ∀ a b c d e : D, lstR [a, b, c, d, e] = .ok (.lst [a, b, c, d, e]) := fun _ _ _ _ _ => rfl
 have ct : catR (.lst [.lst [.int 1, .int 2, .int 3], .tup [.int 1, .int 2], .tup [.int 1, .int 2, .int 3, .int 4], .non, .tup [z, .int 2, .int 3], .tup [.int 1, z, .int 3]]) (.lst [.tup [.int 1, .int 2, y]]) = .ok (.lst (bad0 z y)) := rfl
 unfold oddL at ez
 generalize ((c / 7 % 5 : Nat) : Int) = O at o ez
 generalize ((c / 7 % 2 : Nat) : Int) = H at h ey
 generalize ((c / 7 : Nat) : Int) = Q at q o h
 generalize ((c % 7 : Nat) : Int) = A at a ed
 generalize (c : Int) = C at q a ⊢
 generalize bad0 z y = BL at ct ed
 have q : fdivR (.int C) (.int 7) = .ok (.int Q) := q
 have a : modR (.int C) (.int 7) = .ok (.int A) := a
 have o : modR (.int Q) (.int 5) = .ok (.int O) := o
 have h : modR (.int Q) (.int 2) = .ok (.int H) := h
 simp [g__law_bad, F__law_bad, q, a, o, h, ten5, l1, l2, l3, l5, tup4, ez, ey, ct, ed]
theorem key_no {z y d : D} (hz : z ∈ oddL) (hy : y ∈ [z, D.int 0]) (hd : d ∈ bad0 z y) : g_is_key [d] = .ok (.bl false) := by
 have hz : z = .int (-1) ∨ z = .bl true ∨ z = .str "1" ∨ z = .non ∨ z = .int 100000 := by simpa [oddL] using hz
 have hy : y = z ∨ y = .int 0 := by simpa using hy
 have key : ∀ z y : D, (List.all (bad0 z y) fun d => isF (g_is_key [d])) = true → ∀ d ∈ bad0 z y, g_is_key [d] = .ok (.bl false) := fun z y h d hd => isF_of (List.all_eq_true.mp h d hd)
 rcases hz with rfl | rfl | rfl | rfl | rfl <;> rcases hy with rfl | rfl <;> exact key _ _ (by kernel_rfl) d hd
noncomputable def bad1 : List D := [.int 0, .int 201, .int (-1), .bl true, .str "2", .non, .tup [.int 2]]
theorem bad_1 (c : Nat) : ∃ d ∈ bad1, g__law_bad [.int 1, .int (c : Int)] = .ok d := by
 have q := fdivN c 7 (by decide)
 have a := modN c 7 (by decide)
 have o := modN (c / 7) 5 (by decide)
 obtain ⟨z, hz, ez⟩ := odd_ok c
 obtain ⟨d, hd, ed⟩ := ix_mem bad1 (r := c % 7) (by simp [bad1]; omega)
 refine ⟨d, hd, ?_⟩
 have l5 : ∀ a b c d e : D, lstR [a, b, c, d, e] = .ok (.lst [a, b, c, d, e]) := fun _ _ _ _ _ => rfl
 have l7 : ∀ a b c d e f g : D, lstR [a, b, c, d, e, f, g] = .ok (.lst [a, b, c, d, e, f, g]) := fun _ _ _ _ _ _ _ => rfl
 unfold oddL at ez
 unfold bad1 at ed
 generalize ((c / 7 % 5 : Nat) : Int) = O at o ez
 generalize ((c / 7 : Nat) : Int) = Q at q o
 generalize ((c % 7 : Nat) : Int) = A at a ed
 generalize (c : Int) = C at q a ⊢
 have q : fdivR (.int C) (.int 7) = .ok (.int Q) := q
 have a : modR (.int C) (.int 7) = .ok (.int A) := a
 have o : modR (.int Q) (.int 5) = .ok (.int O) := o
 simp [g__law_bad, F__law_bad, q, a, o, ten5, l5, l7, tup1, ez, ed]
theorem size_no {d : D} (hd : d ∈ bad1) : g_is_within [d, .int 1, .int 200] = .ok (.bl false) :=
 isF_of (List.all_eq_true.mp (show (List.all bad1 fun d => isF (g_is_within [d, .int 1, .int 200])) = true by kernel_rfl) d hd)
theorem is_sign_any (c : Nat) : g_is_sign [.str (chr1 c)] = .ok (.bl (decide (32 ≤ c ∧ c ≤ 126 ∧ c ≠ 37))) := by
 by_cases h1 : 32 ≤ c
 ·by_cases h2 : c ≤ 126
  ·by_cases h3 : c = 37
   ·subst h3; kernel_rfl
   ·have e1 : (32 : Int) ≤ c := by omega
    have e2 : (c : Int) ≤ 126 := by omega
    have e3 : ¬ (c : Int) = 37 := by omega
    simp [g_is_sign, F_is_sign, e1, e2, e3, h1, h2, h3]
  ·have e1 : (32 : Int) ≤ c := by omega
   have e2 : ¬ (c : Int) ≤ 126 := by omega
   simp [g_is_sign, F_is_sign, e1, e2, h2]
 ·have e1 : ¬ (32 : Int) ≤ c := by omega
  simp [g_is_sign, F_is_sign, e1, h1]
theorem text_no_long {t : Str} (h : 2000 < t.length) : g_is_text [.str t] = .ok (.bl false) := by
 have h1 : (2000 : Int) < (t.length : Int) := by omega
 simp [g_is_text, F_is_text, h1, h]
theorem text_no_sign {t : Str} (hl : t.length ≤ 2000) (h : 10 ∈ t.cps.toList ∨ 9 ∈ t.cps.toList) : g_is_text [.str t] = .ok (.bl false) := by
 have h1 : ¬ ((2000 : Int) < (t.length : Int)) := by omega
 have h1' : ¬ (2000 < t.length) := by omega
 have e1 : compL (fun d => g_is_sign [d]) (fun _ => .ok true) (signsD t) = .ok (t.cps.toList.map fun c => D.bl (decide (32 ≤ c ∧ c ≤ 126 ∧ c ≠ 37))) := comp_list _ (fun c => D.bl (decide (32 ≤ c ∧ c ≤ 126 ∧ c ≠ 37))) fun c _ => is_sign_any c
 have e2 : bigR (signsD t) (.ok (t.cps.toList.map fun c => D.bl (decide (32 ≤ c ∧ c ≤ 126 ∧ c ≠ 37)))) = .ok (.lst (t.cps.toList.map fun c => D.bl (decide (32 ≤ c ∧ c ≤ 126 ∧ c ≠ 37)))) := big_ok (by rw [signs_len]; omega)
 have e3 : allR [.lst (t.cps.toList.map fun c => D.bl (decide (32 ≤ c ∧ c ≤ 126 ∧ c ≠ 37)))] = .ok (.bl false) := by
  unfold allR
  dsimp only
  rw [boolsOf_map (fun c => decide (32 ≤ c ∧ c ≤ 126 ∧ c ≠ 37))]
  have : ((t.cps.toList.map fun c => decide (32 ≤ c ∧ c ≤ 126 ∧ c ≠ 37)).all id) = false := by
   rw [List.all_eq_false]
   rcases h with h | h
   ·exact ⟨_, List.mem_map.mpr ⟨10, h, rfl⟩, by simp⟩
   ·exact ⟨_, List.mem_map.mpr ⟨9, h, rfl⟩, by simp⟩
  simp at this ⊢
  exact this
 generalize (t.cps.toList.map fun c => D.bl (decide (32 ≤ c ∧ c ≤ 126 ∧ c ≠ 37))) = LB at e1 e2 e3
 simp [g_is_text, F_is_text, h1, h1', e1, e2, e3]

theorem reps_codes (x : Str) : ∀ (k : Nat) (a : Array Nat), ((List.replicate k x.cps).foldl (· ++ ·) a).toList = a.toList ++ (List.replicate k x.cps.toList).flatten
 | 0, a => by simp
 | k + 1, a => by
  rw [List.replicate_succ, List.foldl_cons, reps_codes x k, List.replicate_succ, List.flatten_cons]
  simp
noncomputable def repT (x : Str) (k : Nat) : Str := ⟨(List.replicate k x.cps).foldl (· ++ ·) #[]⟩
theorem repT_codes (x : Str) (k : Nat) : (repT x k).cps.toList = (List.replicate k x.cps.toList).flatten := by
 unfold repT
 rw [reps_codes]; simp
theorem repT_len (x : Str) (k : Nat) : (repT x k).length = k * x.length := by
 have h := congrArg List.length (repT_codes x k)
 rw [len_rep] at h
 have h1 : (repT x k).cps.toList.length = (repT x k).length := by simp [Str.length]
 have h2 : x.cps.toList.length = x.length := by simp [Str.length]
 rw [h1, h2] at h
 exact h
theorem smul_a : smul2R (.str "a") (.int 2001) = .ok (.str (repT "a" 2001)) := by
 show (if (2 : Int) ≤ 2001 ∧ (2001 : Int) ≤ 1000000 ∧ 1 ≤ (Str.ofString "a").length ∧ (Str.ofString "a").length ≤ 10 then Rs.ok (D.str (repT "a" 2001)) else .bad) = _
 rw [if_pos (by decide)]
theorem smul_b : smul2R (.str "b") (.int 1999) = .ok (.str (repT "b" 1999)) := by
 show (if (2 : Int) ≤ 1999 ∧ (1999 : Int) ≤ 1000000 ∧ 1 ≤ (Str.ofString "b").length ∧ (Str.ofString "b").length ≤ 10 then Rs.ok (D.str (repT "b" 1999)) else .bad) = _
 rw [if_pos (by decide)]
noncomputable def bad2 : List D := [.str (repT "a" 2001), .str "a\n", .str "a\tb", .str (repT "b" 1999 ++ "\n"), .lst [.str "a"], .non, .int 5]
theorem len_b : (repT "b" 1999).length = 1999 := by rw [repT_len]; decide
theorem bad_2 (c : Nat) : ∃ d ∈ bad2, g__law_bad [.int 2, .int (c : Int)] = .ok d := by
 have q := fdivN c 7 (by decide)
 have a := modN c 7 (by decide)
 have o := modN (c / 7) 5 (by decide)
 obtain ⟨z, hz, ez⟩ := odd_ok c
 obtain ⟨d, hd, ed⟩ := ix_mem bad2 (r := c % 7) (by simp [bad2]; omega)
 refine ⟨d, hd, ?_⟩
 have l1 : ∀ a : D, lstR [a] = .ok (.lst [a]) := fun _ => rfl
 have l5 : ∀ a b c d e : D, lstR [a, b, c, d, e] = .ok (.lst [a, b, c, d, e]) := fun _ _ _ _ _ => rfl
 have l7 : ∀ a b c d e f g : D, lstR [a, b, c, d, e, f, g] = .ok (.lst [a, b, c, d, e, f, g]) := fun _ _ _ _ _ _ _ => rfl
 have ad : addR (.str (repT "b" 1999)) (.str "\n") = .ok (.str (repT "b" 1999 ++ "\n")) := by
  show (if (repT "b" 1999).length + (Str.ofString "\n").length ≤ sizeLine then Rs.ok (D.str (repT "b" 1999 ++ "\n")) else .bad) = _
  rw [if_pos (by rw [len_b]; decide)]
 have sa := smul_a
 have sb := smul_b
 unfold oddL at ez
 unfold bad2 at ed
 generalize ((c / 7 % 5 : Nat) : Int) = O at o ez
 generalize ((c / 7 : Nat) : Int) = Q at q o
 generalize ((c % 7 : Nat) : Int) = A at a ed
 generalize (c : Int) = C at q a ⊢
 generalize repT "a" 2001 = RA at sa ed
 generalize repT "b" 1999 ++ "\n" = RC at ad ed
 generalize repT "b" 1999 = RB at sb ad
 have q : fdivR (.int C) (.int 7) = .ok (.int Q) := q
 have a : modR (.int C) (.int 7) = .ok (.int A) := a
 have o : modR (.int Q) (.int 5) = .ok (.int O) := o
 simp [g__law_bad, F__law_bad, q, a, o, ten5, l1, l5, l7, tup1, sa, sb, ad, ez, ed]
theorem text_no {d : D} (hd : d ∈ bad2) : g_is_text [d] = .ok (.bl false) := by
 have hd : d = .str (repT "a" 2001) ∨ d = .str "a\n" ∨ d = .str "a\tb" ∨ d = .str (repT "b" 1999 ++ "\n") ∨ d = .lst [.str "a"] ∨ d = .non ∨ d = .int 5 := by simpa [bad2] using hd
 rcases hd with rfl | rfl | rfl | rfl | rfl | rfl | rfl
 ·exact text_no_long (by rw [repT_len]; decide)
 ·exact text_no_sign (by decide) (by decide)
 ·exact text_no_sign (by decide) (by decide)
 ·refine text_no_sign ?_ (.inl ?_)
  ·rw [len_app, len_b]; decide
  ·rw [show (repT "b" 1999 ++ ("\n" : Str)).cps.toList = (repT "b" 1999).cps.toList ++ ("\n" : Str).cps.toList by simp [show (repT "b" 1999 ++ ("\n" : Str)).cps = (repT "b" 1999).cps ++ ("\n" : Str).cps from rfl]]
   exact List.mem_append_right _ (by decide)
 ·kernel_rfl
 ·kernel_rfl
 ·kernel_rfl
noncomputable def sgA : D := .tup [.str "signs", .str "a"]
noncomputable def pcs4 : List D := [.tup [.str "copy", .int 0, .int 0], .tup [.str "copy", .int (-1), .int 1], .tup [.str "signs", .str ""], .tup [.str "signs", .str "a\n"]]
noncomputable def pcs6 : List D := [.lst [.str "signs", .str "a"], .tup [.str "copies", .int 0, .int 1], .tup [.str "copy", .int 0], .tup [.str "signs", .str "a", .str "b"], .tup [.str "copy", .bl true, .int 1], .non]
noncomputable def pcs4b : List D := [.tup [.str "copy", .int 0, .bl true], .tup [.str "signs", .int 5], .tup [.str "copy", .str "0", .int 1], .tup []]
noncomputable def pcsA : List D := pcs4 ++ pcs6 ++ pcs4b
noncomputable def fullL : List D := (List.replicate 2001 [sgA]).flatten
noncomputable def bad3 (x : D) : List D := [.tup [sgA], .non, .lst fullL, .lst [sgA, x]]
theorem min3 (r : Nat) : minR [.int 3, .int (r : Int)] = .ok (.int ((min 3 r : Nat) : Int)) := by
 show Rs.ok (D.int (if (r : Int) < 3 then (r : Int) else 3)) = _
 congr 2
 split <;> omega
theorem min2 (r : Nat) : minR [.int 2, .int (r : Int)] = .ok (.int ((min 2 r : Nat) : Int)) := by
 show Rs.ok (D.int (if (r : Int) < 2 then (r : Int) else 2)) = _
 congr 2
 split <;> omega
theorem rep_full : repR [sgA] (.ok (.int 2001)) = .ok (.lst fullL) := by
 unfold repR
 rw [if_pos (by decide), ok_bind]
 show (if _ then _ else _) = _
 rw [if_pos (by decide)]; rfl
theorem bad_3 (c : Nat) : ∃ x ∈ pcsA, ∃ d ∈ bad3 x, g__law_bad [.int 3, .int (c : Int)] = .ok d := by
 have q := fdivN c 7 (by decide)
 have a := modN c 7 (by decide)
 have o := modN (c / 7) 5 (by decide)
 have e := modN (c / 7) 14 (by decide)
 obtain ⟨z, hz, ez⟩ := odd_ok c
 obtain ⟨x, hx, ex⟩ := ix_mem pcsA (r := c / 7 % 14) (by simp [pcsA, pcs4, pcs6, pcs4b]; omega)
 obtain ⟨d, hd, ed⟩ := ix_mem (bad3 x) (r := min 3 (c % 7)) (by simp [bad3]; omega)
 refine ⟨x, hx, d, hd, ?_⟩
 have mn := min3 (c % 7)
 have l2 : ∀ a b : D, lstR [a, b] = .ok (.lst [a, b]) := fun _ _ => rfl
 have l4 : ∀ a b c d : D, lstR [a, b, c, d] = .ok (.lst [a, b, c, d]) := fun _ _ _ _ => rfl
 have l5 : ∀ a b c d e : D, lstR [a, b, c, d, e] = .ok (.lst [a, b, c, d, e]) := fun _ _ _ _ _ => rfl
 have l6 : ∀ a b c d e f : D, lstR [a, b, c, d, e, f] = .ok (.lst [a, b, c, d, e, f]) := fun _ _ _ _ _ _ => rfl
 have e1 : extM [.tup [.str "copy", .int 0, .int 0], .tup [.str "copy", .int (-1), .int 1], .tup [.str "signs", .str ""], .tup [.str "signs", .str "a\n"]] [.lst [.lst [.str "signs", .str "a"], .tup [.str "copies", .int 0, .int 1], .tup [.str "copy", .int 0], .tup [.str "signs", .str "a", .str "b"], .tup [.str "copy", .bl true, .int 1], .non]] = .ok (pcs4 ++ pcs6) := s_extM (ds := pcs4) (es := pcs6) (by decide)
 have e2 : extM (pcs4 ++ pcs6) [.lst [.tup [.str "copy", .int 0, .bl true], .tup [.str "signs", .int 5], .tup [.str "copy", .str "0", .int 1], .tup []]] = .ok pcsA := s_extM (ds := pcs4 ++ pcs6) (es := pcs4b) (by decide)
 have rf := rep_full
 unfold oddL at ez
 unfold bad3 at ed
 unfold sgA at rf ed
 generalize ((c / 7 % 5 : Nat) : Int) = O at o ez
 generalize ((c / 7 % 14 : Nat) : Int) = E at e ex
 generalize ((c / 7 : Nat) : Int) = Q at q o e
 generalize ((min 3 (c % 7) : Nat) : Int) = M at mn ed
 generalize ((c % 7 : Nat) : Int) = A at a mn
 generalize (c : Int) = C at q a ⊢
 generalize pcs4 ++ pcs6 = P10 at e1 e2
 generalize pcsA = P14 at e2 ex
 generalize fullL = FL at rf ed
 have q : fdivR (.int C) (.int 7) = .ok (.int Q) := q
 have a : modR (.int C) (.int 7) = .ok (.int A) := a
 have o : modR (.int Q) (.int 5) = .ok (.int O) := o
 have e : modR (.int Q) (.int 14) = .ok (.int E) := e
 simp [g__law_bad, F__law_bad, q, a, o, e, ten5, l2, l4, l5, l6, tup0, tup1, e1, e2, rf, mn, ez, ex, ed]
theorem letter_long {ds : List D} (h : 2000 < ds.length) : g_is_letter [.lst ds] = .ok (.bl false) := by
 have h1 : (2000 : Int) < (ds.length : Int) := by omega
 simp [g_is_letter, F_is_letter, h1, h]
theorem letter_no {x d : D} (hx : x ∈ pcsA) (hd : d ∈ bad3 x) : g_is_letter [d] = .ok (.bl false) := by
 have hd : d = .tup [sgA] ∨ d = .non ∨ d = .lst fullL ∨ d = .lst [sgA, x] := by simpa [bad3] using hd
 rcases hd with rfl | rfl | rfl | rfl
 ·kernel_rfl
 ·kernel_rfl
 ·exact letter_long (by unfold fullL; rw [len_rep]; decide)
 ·exact isF_of (List.all_eq_true.mp (show (List.all pcsA fun x => isF (g_is_letter [.lst [sgA, x]])) = true by kernel_rfl) x hx)
noncomputable def cdA : D := .tup [.tup [.int 1, .int 2], .int 3]
noncomputable def cdsA : List D := [.tup [.tup [.int 1], .int 3], .tup [.tup [.int 1, .int 2], .int (-1)], .tup [.tup [.int 1, .bl true], .int 3], .tup [.tup [.int 1, .int 2], .str "3"], .lst [.tup [.int 1, .int 2], .int 3], .tup [.tup [.int 1, .int 2]], .tup [.lst [.int 1, .int 2], .int 3], .non]
noncomputable def bad4 (x : D) : List D := [.tup [cdA], .non, .lst [cdA, x]]
theorem bad_4 (c : Nat) : ∃ x ∈ cdsA, ∃ d ∈ bad4 x, g__law_bad [.int 4, .int (c : Int)] = .ok d := by
 have q := fdivN c 7 (by decide)
 have a := modN c 7 (by decide)
 have o := modN (c / 7) 5 (by decide)
 have e := modN (c / 7) 8 (by decide)
 obtain ⟨z, hz, ez⟩ := odd_ok c
 obtain ⟨x, hx, ex⟩ := ix_mem cdsA (r := c / 7 % 8) (by simp [cdsA]; omega)
 obtain ⟨d, hd, ed⟩ := ix_mem (bad4 x) (r := min 2 (c % 7)) (by simp [bad4]; omega)
 refine ⟨x, hx, d, hd, ?_⟩
 have mn := min2 (c % 7)
 have l2 : ∀ a b : D, lstR [a, b] = .ok (.lst [a, b]) := fun _ _ => rfl
 have l3 : ∀ a b c : D, lstR [a, b, c] = .ok (.lst [a, b, c]) := fun _ _ _ => rfl
 have l5 : ∀ a b c d e : D, lstR [a, b, c, d, e] = .ok (.lst [a, b, c, d, e]) := fun _ _ _ _ _ => rfl
 unfold oddL at ez
 unfold bad4 cdA at ed
 unfold cdsA at ex
 generalize ((c / 7 % 5 : Nat) : Int) = O at o ez
 generalize ((c / 7 % 8 : Nat) : Int) = E at e ex
 generalize ((c / 7 : Nat) : Int) = Q at q o e
 generalize ((min 2 (c % 7) : Nat) : Int) = M at mn ed
 generalize ((c % 7 : Nat) : Int) = A at a mn
 generalize (c : Int) = C at q a ⊢
 have q : fdivR (.int C) (.int 7) = .ok (.int Q) := q
 have a : modR (.int C) (.int 7) = .ok (.int A) := a
 have o : modR (.int Q) (.int 5) = .ok (.int O) := o
 have e : modR (.int Q) (.int 8) = .ok (.int E) := e
 simp [g__law_bad, F__law_bad, q, a, o, e, ten5, l2, l3, l5, tup0, tup1, mn, ez, ex, ed]
theorem cards_no {x d : D} (hx : x ∈ cdsA) (hd : d ∈ bad4 x) : g_check_cards [d] = .exc "NoCards" := by
 have hd : d = .tup [cdA] ∨ d = .non ∨ d = .lst [cdA, x] := by simpa [bad4] using hd
 rcases hd with rfl | rfl | rfl
 ·kernel_rfl
 ·kernel_rfl
 ·exact isE_of (List.all_eq_true.mp (show (List.all cdsA fun x => isE "NoCards" (g_check_cards [.lst [cdA, x]])) = true by kernel_rfl) x hx)
theorem case_ok (k : Nat) (hk : k < 5) (c : Nat) : g__law_case [.int (k : Int), .int (c : Int)] = .exc (["NoKey", "NoSize", "NoSigns", "NoLetter", "NoCards"][k]'(by simpa using hk)) := by
 have l0 : lstR [] = .ok (.lst []) := rfl
 have l2 : ∀ a b : D, lstR [a, b] = .ok (.lst [a, b]) := fun _ _ => rfl
 have i0 : ∀ a c : D, idxR (.lst [a, c]) (.int 0) = .ok a := fun a c => ix_lst (i := 0) rfl
 have i1 : ∀ a c : D, idxR (.lst [a, c]) (.int 1) = .ok c := fun a c => ix_lst (i := 1) rfl
 have w := fdivN c 1000 (by decide)
 have p := fdivN c 500 (by decide)
 have pm := modN (c / 500) 2 (by decide)
 have w10 := modN (c / 1000) 10 (by decide)
 have w9 := modN (c / 1000) 9 (by decide)
 have w15 := modN (c / 1000) 15 (by decide)
 have w8 := modN (c / 1000) 8 (by decide)
 have iT : intR [.bl true] = .ok (.int 1) := rfl
 have iF : intR [.bl false] = .ok (.int 0) := rfl
 have w : fdivR (.int (c : Int)) (.int 1000) = .ok (.int ((c / 1000 : Nat) : Int)) := w
 have p : fdivR (.int (c : Int)) (.int 500) = .ok (.int ((c / 500 : Nat) : Int)) := p
 have pm : modR (.int ((c / 500 : Nat) : Int)) (.int 2) = .ok (.int ((c / 500 % 2 : Nat) : Int)) := pm
 have w10 : modR (.int ((c / 1000 : Nat) : Int)) (.int 10) = .ok (.int ((c / 1000 % 10 : Nat) : Int)) := w10
 have w9 : modR (.int ((c / 1000 : Nat) : Int)) (.int 9) = .ok (.int ((c / 1000 % 9 : Nat) : Int)) := w9
 have w15 : modR (.int ((c / 1000 : Nat) : Int)) (.int 15) = .ok (.int ((c / 1000 % 15 : Nat) : Int)) := w15
 have w8 : modR (.int ((c / 1000 : Nat) : Int)) (.int 8) = .ok (.int ((c / 1000 % 8 : Nat) : Int)) := w8
 obtain ⟨oth, hoth, eoth⟩ := ix_mem [D.int 2, D.non] (r := c / 500 % 2) (by simp; omega)
 obtain ⟨otx, hotx, eotx⟩ := ix_mem [D.str "ab", D.non] (r := c / 500 % 2) (by simp; omega)
 obtain ⟨otl, hotl, eotl⟩ := ix_mem [D.lst [], D.non] (r := c / 500 % 2) (by simp; omega)
 have hk5 : k = 0 ∨ k = 1 ∨ k = 2 ∨ k = 3 ∨ k = 4 := by omega
 have kd : tupR [.int 7, .int 3, .int 101] = .ok kD := rfl
 rcases hk5 with rfl | rfl | rfl | rfl | rfl
 ·obtain ⟨z, hz, y, hy, d, hd, ed⟩ := bad_0 c
  have wk := fun s t => with_key (key_bad (key_no hz hy hd)) (w := c / 1000 % 10) (by omega) s t
  have hoth : oth = .int 2 ∨ oth = .non := by simpa using hoth
  show _ = Rs.exc "NoKey"
  generalize ((c / 1000 % 10 : Nat) : Int) = W at w10 wk
  generalize ((c / 1000 : Nat) : Int) = W1 at w w10
  generalize ((c / 500 % 2 : Nat) : Int) = P at pm eoth
  generalize ((c / 500 : Nat) : Int) = P1 at p pm
  generalize (c : Int) = C at w p ed ⊢
  generalize kD = K at kd
  rcases hoth with rfl | rfl
  ·have q2 : eqR (.int 2) (.int 2) = .ok (.bl true) := by rw [eq_l (by simp) (by simp) (by simp)]; simp
   simp [g__law_case, F__law_case, w, p, pm, ed, kd, l2, i0, i1, iT, iF, eoth, w10, wk, q2]
  ·have q2 : eqR .non (.int 2) = .ok (.bl false) := by kernel_rfl
   simp [g__law_case, F__law_case, w, p, pm, ed, kd, l2, i0, i1, iT, iF, eoth, w10, wk, q2]
 ·obtain ⟨d, hd, ed⟩ := bad_1 c
  have wk := fun t => with_size (size_bad (size_no hd)) (w := c / 1000 % 9) (by omega) t
  show _ = Rs.exc "NoSize"
  generalize ((c / 1000 % 9 : Nat) : Int) = W at w9 wk
  generalize ((c / 1000 : Nat) : Int) = W1 at w w9
  generalize ((c / 500 % 2 : Nat) : Int) = P at pm eotx
  generalize ((c / 500 : Nat) : Int) = P1 at p pm
  generalize (c : Int) = C at w p ed ⊢
  generalize kD = K at kd wk
  simp [g__law_case, F__law_case, w, p, pm, ed, kd, l2, i0, i1, iT, iF, eotx, w9, wk]
 ·obtain ⟨d, hd, ed⟩ := bad_2 c
  have wk := fun l => with_text (text_bad (text_no hd)) (w := c / 1000 % 15) (by omega) l
  show _ = Rs.exc "NoSigns"
  generalize ((c / 1000 % 15 : Nat) : Int) = W at w15 wk
  generalize ((c / 1000 : Nat) : Int) = W1 at w w15
  generalize ((c / 500 % 2 : Nat) : Int) = P at pm eotx eotl
  generalize ((c / 500 : Nat) : Int) = P1 at p pm
  generalize (c : Int) = C at w p ed ⊢
  generalize kD = K at kd wk
  simp [g__law_case, F__law_case, w, p, pm, ed, kd, l0, l2, i0, i1, iT, iF, eotx, eotl, w15, wk]
 ·obtain ⟨x, hx, d, hd, ed⟩ := bad_3 c
  have wk := with_letter (letter_bad (letter_no hx hd)) ab_text ab_letter (w := c / 1000 % 8) (by omega)
  show _ = Rs.exc "NoLetter"
  generalize ((c / 1000 % 8 : Nat) : Int) = W at w8 wk
  generalize ((c / 1000 : Nat) : Int) = W1 at w w8
  generalize ((c / 500 % 2 : Nat) : Int) = P at pm eotx
  generalize ((c / 500 : Nat) : Int) = P1 at p pm
  generalize (c : Int) = C at w p ed ⊢
  generalize kD = K at kd
  simp [g__law_case, F__law_case, w, p, pm, ed, kd, l2, i0, i1, iT, iF, eotx, w8, wk]
 ·obtain ⟨x, hx, d, hd, ed⟩ := bad_4 c
  have wk : ∀ n, g_found_by [kD, .int 2, d, n] = .exc "NoCards" := fun n => by simp [g_found_by, F_found_by, kD_ok, two_ok, cards_no hx hd]
  show _ = Rs.exc "NoCards"
  generalize ((c / 1000 : Nat) : Int) = W1 at w
  generalize ((c / 500 % 2 : Nat) : Int) = P at pm eotx
  generalize ((c / 500 : Nat) : Int) = P1 at p pm
  generalize (c : Int) = C at w p ed ⊢
  generalize kD = K at kd wk
  simp [g__law_case, F__law_case, w, p, pm, ed, kd, l2, i0, i1, iT, iF, eotx, wk]
theorem bLof_map : ∀ ns : List Bool, bLof (ns.map D.bl) = some ns
 | [] => rfl
 | n :: ns => by show (bLof (ns.map D.bl)).map (n :: ·) = _; rw [bLof_map ns]; rfl
theorem ten6 : powR (.int 10) (.int 6) = .ok (.int 1000000) := by kernel_rfl
theorem math (ns : List Int) (hn : ns.length ≤ 63) : g_law [.lst (ns.map D.int)] = .ok (.bl true) := by
 obtain ⟨z, ez, z0, z1⟩ := mixed_ok ns 0 (m := 5) (by decide)
 obtain ⟨k, rfl⟩ := Int.eq_ofNat_of_zero_le z0
 obtain ⟨y, ey, y0, y1⟩ := mixed_ok ns 1 (m := 1000000) (by decide)
 obtain ⟨c, rfl⟩ := Int.eq_ofNat_of_zero_le y0
 have hk : k < 5 := by omega
 have hc := case_ok k hk c
 have t6 := ten6
 have l3 : ∀ a b c : D, lstR [a, b, c] = .ok (.lst [a, b, c]) := fun _ _ _ => rfl
 show g_law [scr ns] = _
 simp at ez ey
 have hl3 : ∀ a b c : D, lstR [a, b, c] = .ok (.lst [a, b, c]) := fun _ _ _ => rfl
 have ex : ∀ a b c d e f g : D, extM [a, b, c, d] [.lst [e, f, g]] = .ok [a, b, c, d, e, f, g] := fun a b c d e f g => s_extM (ds := [a, b, c, d]) (es := [e, f, g]) (by simp)
 -- what the handler reckons of the exception's class
 have tb : ∀ (c0 c1 c2 c3 c4 : Bool), iszR [("NoCards", c0), ("NoKey", c1), ("NoLetter", c2), ("NoSigns", c3), ("NoSize", c4)] (.exn "NoCards") = .ok (.bl c0) ∧ iszR [("NoCards", c0), ("NoKey", c1), ("NoLetter", c2), ("NoSigns", c3), ("NoSize", c4)] (.exn "NoKey") = .ok (.bl c1) ∧
   iszR [("NoCards", c0), ("NoKey", c1), ("NoLetter", c2), ("NoSigns", c3), ("NoSize", c4)] (.exn "NoLetter") = .ok (.bl c2) ∧ iszR [("NoCards", c0), ("NoKey", c1), ("NoLetter", c2), ("NoSigns", c3), ("NoSize", c4)] (.exn "NoSigns") = .ok (.bl c3) ∧ iszR [("NoCards", c0), ("NoKey", c1), ("NoLetter", c2), ("NoSigns", c3), ("NoSize", c4)] (.exn "NoSize") = .ok (.bl c4) := fun c0 c1 c2 c3 c4 => by
  refine ⟨?_, ?_, ?_, ?_, ?_⟩ <;> kernel_rfl
 have cnt : ∀ ns : List Bool, cntR (.lst (ns.map D.bl)) [.bl true] = .ok (.int (ns.count true : Nat)) := fun ns => by
  show (match bLof (ns.map D.bl) with | some ns => (Rs.ok (D.int (ns.count true : Nat)) : Rs D) | none => .bad) = _
  rw [bLof_map]
 have ixb : ∀ ns : List Bool, true ∈ ns → ns.length ≤ 1000000 → ixbR (.lst (ns.map D.bl)) [.bl true] = .ok (.int (ns.idxOf true : Nat)) := fun ns h1 h2 => by
  show (match bLof (ns.map D.bl) with | some ns => (if true ∈ ns ∧ ns.length ≤ 1000000 then (Rs.ok (D.int (ns.idxOf true : Nat)) : Rs D) else .bad) | none => .bad) = _
  rw [bLof_map]
  dsimp only
  rw [if_pos ⟨h1, h2⟩]
 have isx : ∀ x ∈ (["NoCards", "NoKey", "NoLetter", "NoSigns", "NoSize"] : List Str), isxR ["NoCards", "NoKey", "NoLetter", "NoSigns", "NoSize"] (.exn x) = .ok (.bl true) := fun x hx => by rw [s_isxR, if_pos hx]
 have ee : ∀ i : Int, eqR (.int i) (.int i) = .ok (.bl true) := fun i => by rw [eq_l (by simp) (by simp) (by simp)]; simp
 -- the whole, for a class x whose place among the seven is k
 have fin' : ∀ (k : Nat) (x : Str) (b0 b1 b2 b3 b4 : Bool), x ∈ (["NoCards", "NoKey", "NoLetter", "NoSigns", "NoSize"] : List Str) → g__law_case [.int (k : Int), .int (c : Int)] = .exc x → g__law_mixed [scr ns, .int 0, .int 5] = .ok (.int (k : Int)) →
   iszR [("NoCards", false), ("NoKey", true), ("NoLetter", false), ("NoSigns", false), ("NoSize", false)] (.exn x) = .ok (.bl b0) → iszR [("NoCards", false), ("NoKey", false), ("NoLetter", false), ("NoSigns", false), ("NoSize", true)] (.exn x) = .ok (.bl b1) → iszR [("NoCards", false), ("NoKey", false), ("NoLetter", false), ("NoSigns", true), ("NoSize", false)] (.exn x) = .ok (.bl b2) →
   iszR [("NoCards", false), ("NoKey", false), ("NoLetter", true), ("NoSigns", false), ("NoSize", false)] (.exn x) = .ok (.bl b3) → iszR [("NoCards", true), ("NoKey", false), ("NoLetter", false), ("NoSigns", false), ("NoSize", false)] (.exn x) = .ok (.bl b4) → iszR [("NoCards", false), ("NoKey", false), ("NoLetter", false), ("NoSigns", false), ("NoSize", false)] (.exn x) = .ok (.bl false) →
   [b0, b1, b2, b3, b4, false, false].count true = 1 → [b0, b1, b2, b3, b4, false, false].idxOf true = k → g_law [scr ns] = .ok (.bl true) := by
  intro k x b0 b1 b2 b3 b4 hx hc ez i0 i1 i2 i3 i4 i5 hct hix
  have hmem : true ∈ [b0, b1, b2, b3, b4, false, false] := by
   refine Classical.byContradiction fun h => ?_
   rw [List.count_eq_zero.mpr h] at hct
   cases hct
  have q1 := cnt [b0, b1, b2, b3, b4, false, false]
  have q2 := ixb [b0, b1, b2, b3, b4, false, false] hmem (by simp)
  rw [hct] at q1
  rw [hix] at q2
  have q1 : cntR (.lst [.bl b0, .bl b1, .bl b2, .bl b3, .bl b4, .bl false, .bl false]) [.bl true] = .ok (.int 1) := q1
  have q2 : ixbR (.lst [.bl b0, .bl b1, .bl b2, .bl b3, .bl b4, .bl false, .bl false]) [.bl true] = .ok (.int (k : Int)) := q2
  have sx := isx x hx
  have e1 := ee 1
  have e2 := ee (k : Int)
  have tr : ∀ F2 δ, tryO ["NoCards", "NoKey", "NoLetter", "NoSigns", "NoSize"] 2 F2 (.exc x δ) = (match F2 (δ.set 2 (some (.v (.exn x)))) with | .rt d => .rt d | _ => .bad) := fun F2 δ => if_pos hx
  generalize (k : Int) = K at *
  generalize (c : Int) = C at *
  generalize D.exn x = XD at *
  simp only [g_law, s_fn1]
  unfold F_law
  simp [ez, ey, t6, hc, tryS, tr, i0, i1, i2, i3, i4, i5, hl3, ex, q1, q2, sx, e1, e2]
 have hk5 : k = 0 ∨ k = 1 ∨ k = 2 ∨ k = 3 ∨ k = 4 := by omega
 rcases hk5 with rfl | rfl | rfl | rfl | rfl
 ·exact fin' 0 "NoKey" true false false false false (by decide) hc ez (tb ..).2.1 (tb ..).2.1 (tb ..).2.1 (tb ..).2.1 (tb ..).2.1 (tb ..).2.1 (by decide) (by decide)
 ·exact fin' 1 "NoSize" false true false false false (by decide) hc ez (tb ..).2.2.2.2 (tb ..).2.2.2.2 (tb ..).2.2.2.2 (tb ..).2.2.2.2 (tb ..).2.2.2.2 (tb ..).2.2.2.2 (by decide) (by decide)
 ·exact fin' 2 "NoSigns" false false true false false (by decide) hc ez (tb ..).2.2.2.1 (tb ..).2.2.2.1 (tb ..).2.2.2.1 (tb ..).2.2.2.1 (tb ..).2.2.2.1 (tb ..).2.2.2.1 (by decide) (by decide)
 ·exact fin' 3 "NoLetter" false false false true false (by decide) hc ez (tb ..).2.2.1 (tb ..).2.2.1 (tb ..).2.2.1 (tb ..).2.2.1 (tb ..).2.2.1 (tb ..).2.2.1 (by decide) (by decide)
 ·exact fin' 4 "NoCards" false false false false true (by decide) hc ez (tb ..).1 (tb ..).1 (tb ..).1 (tb ..).1 (tb ..).1 (tb ..).1 (by decide) (by decide)

end A
set_option Elab.async false
set_option linter.all false
set_option maxRecDepth 100000
set_option maxHeartbeats 4000000
namespace A
open PySem PySem.Spec PyProof.Rows L2 M
set_option autoImplicit false
structure Txt (K : PySem.W.Frag) (mg : Str → Option Value) : Prop where
 b_len : mg "len" = none
 b_min : mg "min" = none
 b_isinstance : mg "isinstance" = none
 b_int : mg "int" = none
 b_bool : mg "bool" = none
 b_tuple : mg "tuple" = none
 b_ord : mg "ord" = none
 b_str : mg "str" = none
 b_all : mg "all" = none
 b_list : mg "list" = none
 b_range : mg "range" = none
 b_enumerate : mg "enumerate" = none
 b_ValueError : mg "ValueError" = none
 c_MOST_FEW : ∃ t, mg "MOST_FEW" = some (.int 999 t)
 c_MOST_TIMES : ∃ t, mg "MOST_TIMES" = some (.int 999 t)
 c_MOST_MANY : ∃ t, mg "MOST_MANY" = some (.int 99999 t)
 c_BLANK : ∃ t, mg "BLANK" = some (.int 32 t)
 c_TILDE : ∃ t, mg "TILDE" = some (.int 126 t)
 c_PERCENT : ∃ t, mg "PERCENT" = some (.int 37 t)
 c_MOST_SIGNS : ∃ t, mg "MOST_SIGNS" = some (.int 2000 t)
 c_MOST_PIECES : ∃ t, mg "MOST_PIECES" = some (.int 2000 t)
 c_MOST_SIZE : ∃ t, mg "MOST_SIZE" = some (.int 200 t)
 x_NoKey : ExcC K mg "NoKey"
 x_NoSigns : ExcC K mg "NoSigns"
 x_NoLetter : ExcC K mg "NoLetter"
 x_NoSize : ExcC K mg "NoSize"
 x_NoCards : ExcC K mg "NoCards"
 f_least_between : ∃ f, mg "least_between" = some (.ref f) ∧ PySem.W.keepIn K (.ref f) = true
 z_NoCards_NoKey_NoLetter_NoSigns_NoSize_NoLetter : ∃ D, mg "NoLetter" = some (.ref D) ∧ ∀ x ∈ ([("NoCards", false), ("NoKey", false), ("NoLetter", true), ("NoSigns", false), ("NoSize", false)] : List (Str × Bool)), IsyK K x.1 (.ref D) x.2
 z_NoCards_NoKey_NoLetter_NoSigns_NoSize_NoSigns : ∃ D, mg "NoSigns" = some (.ref D) ∧ ∀ x ∈ ([("NoCards", false), ("NoKey", false), ("NoLetter", false), ("NoSigns", true), ("NoSize", false)] : List (Str × Bool)), IsyK K x.1 (.ref D) x.2
 z_NoCards_NoKey_NoLetter_NoSigns_NoSize_NoSize : ∃ D, mg "NoSize" = some (.ref D) ∧ ∀ x ∈ ([("NoCards", false), ("NoKey", false), ("NoLetter", false), ("NoSigns", false), ("NoSize", true)] : List (Str × Bool)), IsyK K x.1 (.ref D) x.2
 z_NoCards_NoKey_NoLetter_NoSigns_NoSize_NoKey : ∃ D, mg "NoKey" = some (.ref D) ∧ ∀ x ∈ ([("NoCards", false), ("NoKey", true), ("NoLetter", false), ("NoSigns", false), ("NoSize", false)] : List (Str × Bool)), IsyK K x.1 (.ref D) x.2
 z_NoCards_NoKey_NoLetter_NoSigns_NoSize_NoLines : ∃ D, mg "NoLines" = some (.ref D) ∧ ∀ x ∈ ([("NoCards", false), ("NoKey", false), ("NoLetter", false), ("NoSigns", false), ("NoSize", false)] : List (Str × Bool)), IsyK K x.1 (.ref D) x.2
 z_NoCards_NoKey_NoLetter_NoSigns_NoSize_Beyond : ∃ D, mg "Beyond" = some (.ref D) ∧ ∀ x ∈ ([("NoCards", false), ("NoKey", false), ("NoLetter", false), ("NoSigns", false), ("NoSize", false)] : List (Str × Bool)), IsyK K x.1 (.ref D) x.2
 z_NoCards_NoKey_NoLetter_NoSigns_NoSize_NoCards : ∃ D, mg "NoCards" = some (.ref D) ∧ ∀ x ∈ ([("NoCards", true), ("NoKey", false), ("NoLetter", false), ("NoSigns", false), ("NoSize", false)] : List (Str × Bool)), IsyK K x.1 (.ref D) x.2
 i_NoCards_NoKey_NoLetter_NoSigns_NoSize_ValueError : ∀ c ∈ (["NoCards", "NoKey", "NoLetter", "NoSigns", "NoSize"] : List Str), IsxK K c (.type "ValueError")
 m_NoCards_NoKey_NoLetter_NoSigns_NoSize_MendError : ∀ c ∈ (["NoCards", "NoKey", "NoLetter", "NoSigns", "NoSize"] : List Str), ExM K mg c "MendError"
@[irreducible] noncomputable def ZE : Cx → Expr → TE → Prop := PE
theorem zE : @PE = @ZE := by unfold ZE; rfl
@[irreducible] noncomputable def ZT : Cx → Expr → TT → Prop := PT
theorem zT : @PT = @ZT := by unfold ZT; rfl
@[irreducible] noncomputable def ZW : Cx → Expr → TT → Prop := PW
theorem zW : @PW = @ZW := by unfold ZW; rfl
@[irreducible] noncomputable def ZA : Cx → List Expr → TA → Prop := PA
theorem zA : @PA = @ZA := by unfold ZA; rfl
@[irreducible] noncomputable def ZS : Cx → Stmt → TS → Prop := PS
theorem zS : @PS = @ZS := by unfold ZS; rfl
@[irreducible] noncomputable def ZSs : Cx → List Stmt → TS → Prop := PSs
theorem zSs : @PSs = @ZSs := by unfold ZSs; rfl
noncomputable def pd_str := zE ▸ @M.pd_str
noncomputable def q_enum := zE ▸ @M.q_enum
noncomputable def q_tup := zE ▸ zA ▸ @M.q_tup
noncomputable def PW.pt := zT ▸ zW ▸ @L2.PW.pt
noncomputable def q_tnot := zT ▸ @M.q_tnot
noncomputable def q_cnt := zE ▸ zA ▸ @M.q_cnt
noncomputable def q_ixb := zE ▸ zA ▸ @M.q_ixb
noncomputable def q_isxT := zE ▸ @M.q_isxT
noncomputable def q_for := zS ▸ zSs ▸ @M.q_for
noncomputable def pd_bl := zE ▸ @M.pd_bl
noncomputable def q_comp2 := zE ▸ @M.q_comp2
noncomputable def q_share := zS ▸ @M.q_share
noncomputable def q_w1o := zT ▸ zW ▸ @M.q_w1o
noncomputable def q_ix := zE ▸ @M.q_ix
noncomputable def q_ifS := zT ▸ zS ▸ zSs ▸ @M.q_ifS
noncomputable def q_tval := zE ▸ zT ▸ @M.q_tval
noncomputable def q_expr := zE ▸ zS ▸ @M.q_expr
noncomputable def q_lst := zE ▸ zA ▸ @M.q_lst
noncomputable def q_a0 := zA ▸ @M.q_a0
noncomputable def q_blt := zE ▸ zA ▸ @M.q_blt
noncomputable def q_wor := zT ▸ zW ▸ @M.q_wor
noncomputable def q_callX := zE ▸ zA ▸ @M.q_callX
noncomputable def q_callN := zE ▸ zA ▸ @M.q_callN
noncomputable def q_chain := zE ▸ @M.q_chain
noncomputable def q_newD := zS ▸ @M.q_newD
noncomputable def q_rng1 := zA ▸ @M.q_rng1
noncomputable def q_tcmp := zE ▸ zT ▸ @M.q_tcmp
noncomputable def pd_one := zE ▸ @M.pd_one
noncomputable def pd_int := zE ▸ @M.pd_int
noncomputable def pds_cons := zS ▸ zSs ▸ @M.pds_cons
noncomputable def q_rep := zE ▸ zA ▸ @M.q_rep
noncomputable def q_forX := zS ▸ zSs ▸ @M.q_forX
noncomputable def q_try := zS ▸ zSs ▸ @M.q_try
noncomputable def q_own := zA ▸ zS ▸ @M.q_own
noncomputable def q_isz := zE ▸ @M.q_isz
noncomputable def q_it := zE ▸ @M.q_it
noncomputable def q_compX := zE ▸ @M.q_compX
noncomputable def q_and := zE ▸ @M.q_and
noncomputable def pds_nil := zSs ▸ @M.pds_nil
noncomputable def q_ret := zE ▸ zS ▸ @M.q_ret
noncomputable def pds_one := zS ▸ zSs ▸ @M.pds_one
noncomputable def q_part := zE ▸ @M.q_part
noncomputable def q_neg := zE ▸ @M.q_neg
noncomputable def def_fn := zSs ▸ @M.def_fn
noncomputable def q_raise := zA ▸ zS ▸ @M.q_raise
noncomputable def q_not := zE ▸ @M.q_not
noncomputable def q_never := zS ▸ @M.q_never
noncomputable def Tst2.one := zT ▸ @M.Tst2.one
noncomputable def q_bin := zE ▸ @M.q_bin
noncomputable def q_aug := zE ▸ zS ▸ @M.q_aug
noncomputable def q_rng3 := zA ▸ @M.q_rng3
noncomputable def q_set := zE ▸ zS ▸ @M.q_set
noncomputable def q_ty := zE ▸ zA ▸ @M.q_ty
noncomputable def q_cmp := zE ▸ @M.q_cmp
noncomputable def q_isi := zE ▸ @M.q_isi
noncomputable def def_ok := zSs ▸ @M.def_ok
noncomputable def q_mut := zA ▸ zS ▸ @M.q_mut
noncomputable def q_gint := zE ▸ @M.q_gint
noncomputable def q_ixO := zE ▸ @M.q_ixO
noncomputable def q_callL := zE ▸ zA ▸ @M.q_callL
noncomputable def q_comp := zE ▸ @M.q_comp
noncomputable def pd_var := zE ▸ @M.pd_var
noncomputable def def_okX := zSs ▸ @M.def_okX
noncomputable def q_aC := zE ▸ zA ▸ @M.q_aC
noncomputable def pd_never := zE ▸ @M.pd_never
noncomputable def q_call := zE ▸ zA ▸ @M.q_call
noncomputable def pd_non := zE ▸ @M.pd_non
noncomputable def q_setd := zA ▸ zS ▸ @M.q_setd
noncomputable def q_slice := zE ▸ @M.q_slice
section
variable {P : Program} {w : World} {K : PySem.W.Frag} {mg : Str → Option Value} {base : Heap}
theorem ok__law_cell_at {f : Addr} {fd : FuncData} (F : Fun K "_law_cell_at" "_law_cell_at" (top 84) f fd) (hx : mg "_law_cell_at" = some (.ref f)) (T : Txt K mg) : Fn P w K mg base "_law_cell_at" 1 2 g__law_cell_at := by
 have S : FnScope ["_law_script", "_law_k"] ["_law_script", "_law_k"] (defScope (top 84)) := ⟨rfl, rfl, rfl, by decide +kernel, rfl, by decide +kernel, by decide +kernel⟩
 refine def_ok (m := 0) (k := 0) (Fb := F__law_cell_at) F S rfl (fun _ _ _ _ _ _ us hl => match us, hl with | [_, _], _ => rfl) hx fun cdv A outer s H E G₀ hr => ?_
 have hu := hr.units
 exact (pds_cons (q_ifS (q_tcmp od_lt (pd_var 1) (q_blt cd_len T.b_len (by rfl) (q_aC (pd_var 0) q_a0))) (pds_one (q_ret (q_ix (pd_var 0) (pd_var 1)))) pds_nil)
   (pds_cons (q_ifS (q_tcmp (od_eq hu) (pd_var 0) (q_lst q_a0)) (pds_one (q_ret pd_int)) pds_nil)
   (pds_one (q_ret (q_bin od_add (q_bin od_mul (q_ix (pd_var 0) (q_bin od_mod (pd_var 1) (q_blt cd_len T.b_len (by rfl) (q_aC (pd_var 0) q_a0)))) pd_int) (pd_var 1))))))

theorem ok__law_mixed {f : Addr} {fd : FuncData} (F : Fun K "_law_mixed" "_law_mixed" (top 85) f fd) (hx : mg "_law_mixed" = some (.ref f)) (T : Txt K mg) (h__law_cell_at : Fn P w K mg base "_law_cell_at" 1 2 g__law_cell_at) : Fn P w K mg base "_law_mixed" 2 3 g__law_mixed := by
 have S : FnScope ["_law_script", "_law_k", "_law_many", "_law_drawn"] ["_law_script", "_law_k", "_law_many"] (defScope (top 85)) := ⟨rfl, rfl, rfl, by decide +kernel, rfl, by decide +kernel, by decide +kernel⟩
 refine def_ok (m := 1) (k := 1) (Fb := F__law_mixed) F S rfl (fun _ _ _ _ _ _ us hl => match us, hl with | [_, _, _], _ => rfl) hx fun cdv A outer s H E G₀ hr => ?_
 have hu := hr.units
 exact (pds_cons (q_set 3 S.nd (q_bin od_mod (q_bin od_mul (q_bin od_add (q_bin od_add (q_call h__law_cell_at (hr.mono (by decide)) (q_aC (pd_var 0) (q_aC (pd_var 1) q_a0))) (q_bin od_mul pd_int (pd_var 1))) pd_int) pd_int) pd_int))
   (pds_one (q_ret (q_bin od_mod (q_bin od_mod (q_bin od_add (q_bin od_add (q_bin od_mul (pd_var 3) (pd_var 3)) (q_bin od_mul pd_int (pd_var 3))) (pd_var 1)) pd_int) (pd_var 2)))))

theorem ok__law_bad {f : Addr} {fd : FuncData} (F : Fun K "_law_bad" "_law_bad" (top 90) f fd) (hx : mg "_law_bad" = some (.ref f)) (T : Txt K mg) : Fn P w K mg base "_law_bad" 1 2 g__law_bad := by
 have S : FnScope ["_law_kind", "_law_cell", "_law_odd", "_law_some", "_law_full", "_law_card"] ["_law_kind", "_law_cell"] (defScope (top 90)) := ⟨rfl, rfl, rfl, by decide +kernel, rfl, by decide +kernel, by decide +kernel⟩
 refine def_ok (m := 4) (k := 0) (Fb := F__law_bad) F S rfl (fun _ _ _ _ _ _ us hl => match us, hl with | [_, _], _ => rfl) hx fun cdv A outer s H E G₀ hr => ?_
 have hu := hr.units
 exact (pds_cons (q_set 2 S.nd (q_ix (q_lst (q_aC (q_neg pd_int) (q_aC pd_bl (q_aC pd_str (q_aC pd_non (q_aC (q_bin od_pow pd_int pd_int) q_a0)))))) (q_bin od_mod (q_bin od_fdiv (pd_var 1) pd_int) pd_int)))
   (pds_cons (q_ifS (q_tcmp (od_eq hu) (pd_var 0) pd_int) (pds_cons (q_own 3 S.nd (q_aC (q_lst (q_aC pd_int (q_aC pd_int (q_aC pd_int q_a0)))) (q_aC (q_tup (q_aC pd_int (q_aC pd_int q_a0))) (q_aC (q_tup (q_aC pd_int (q_aC pd_int (q_aC pd_int (q_aC pd_int q_a0))))) (q_aC pd_non (q_aC (q_tup (q_aC (pd_var 2) (q_aC pd_int (q_aC pd_int q_a0)))) (q_aC (q_tup (q_aC pd_int (q_aC (pd_var 2) (q_aC pd_int q_a0)))) q_a0)))))))
   (pds_one (q_share (q_ret (q_ix (q_bin od_cat (pd_var 3) (q_lst (q_aC (q_tup (q_aC pd_int (q_aC pd_int (q_aC (q_ix (q_lst (q_aC (pd_var 2) (q_aC pd_int q_a0))) (q_bin od_mod (q_bin od_fdiv (pd_var 1) pd_int) pd_int)) q_a0)))) q_a0))) (q_bin od_mod (pd_var 1) pd_int)))))) pds_nil)
   (pds_cons (q_ifS (q_tcmp (od_eq hu) (pd_var 0) pd_int) (pds_one (q_ret (q_ix (q_lst (q_aC pd_int (q_aC pd_int (q_aC (q_neg pd_int) (q_aC pd_bl (q_aC pd_str (q_aC pd_non (q_aC (q_tup (q_aC pd_int q_a0)) q_a0)))))))) (q_bin od_mod (pd_var 1) pd_int)))) pds_nil)
   (pds_cons (q_ifS (q_tcmp (od_eq hu) (pd_var 0) pd_int) (pds_one (q_ret (q_ix (q_lst (q_aC (q_bin od_smul2 pd_str pd_int) (q_aC pd_str (q_aC pd_str (q_aC (q_bin od_add (q_bin od_smul2 pd_str pd_int) pd_str) (q_aC (q_lst (q_aC pd_str q_a0)) (q_aC pd_non (q_aC pd_int q_a0)))))))) (q_bin od_mod (pd_var 1) pd_int)))) pds_nil)
   (pds_cons (q_ifS (q_tcmp (od_eq hu) (pd_var 0) pd_int) (pds_cons (q_own 3 S.nd (q_aC (q_tup (q_aC pd_str (q_aC pd_int (q_aC pd_int q_a0)))) (q_aC (q_tup (q_aC pd_str (q_aC (q_neg pd_int) (q_aC pd_int q_a0)))) (q_aC (q_tup (q_aC pd_str (q_aC pd_str q_a0))) (q_aC (q_tup (q_aC pd_str (q_aC pd_str q_a0))) q_a0)))))
   (pds_cons (q_mut 3 ext_ne PySem.F.slot_list_extend PySem.F.type_list_extend mt_extS mut_extend (q_aC (q_lst (q_aC (q_lst (q_aC pd_str (q_aC pd_str q_a0))) (q_aC (q_tup (q_aC pd_str (q_aC pd_int (q_aC pd_int q_a0)))) (q_aC (q_tup (q_aC pd_str (q_aC pd_int q_a0))) (q_aC (q_tup (q_aC pd_str (q_aC pd_str (q_aC pd_str q_a0)))) (q_aC (q_tup (q_aC pd_str (q_aC pd_bl (q_aC pd_int q_a0)))) (q_aC pd_non q_a0))))))) q_a0))
   (pds_cons (q_mut 3 ext_ne PySem.F.slot_list_extend PySem.F.type_list_extend mt_extS mut_extend (q_aC (q_lst (q_aC (q_tup (q_aC pd_str (q_aC pd_int (q_aC pd_bl q_a0)))) (q_aC (q_tup (q_aC pd_str (q_aC pd_int q_a0))) (q_aC (q_tup (q_aC pd_str (q_aC pd_str (q_aC pd_int q_a0)))) (q_aC (q_tup q_a0) q_a0))))) q_a0))
   (pds_cons (q_set 4 S.nd (q_rep (q_aC (q_tup (q_aC pd_str (q_aC pd_str q_a0))) q_a0) pd_int))
   (pds_one (q_ret (q_ix (q_lst (q_aC (q_tup (q_aC (q_tup (q_aC pd_str (q_aC pd_str q_a0))) q_a0)) (q_aC pd_non (q_aC (pd_var 4) (q_aC (q_lst (q_aC (q_tup (q_aC pd_str (q_aC pd_str q_a0))) (q_aC (q_ixO 3 (q_bin od_mod (q_bin od_fdiv (pd_var 1) pd_int) pd_int)) q_a0))) q_a0))))) (q_blt (cd_min rfl) T.b_min (by rfl) (q_aC pd_int (q_aC (q_bin od_mod (pd_var 1) pd_int) q_a0)))))))))) pds_nil)
   (pds_cons (q_set 5 S.nd (q_tup (q_aC (q_tup (q_aC pd_int (q_aC pd_int q_a0))) (q_aC pd_int q_a0))))
   (pds_cons (q_own 3 S.nd (q_aC (q_tup (q_aC (q_tup (q_aC pd_int q_a0)) (q_aC pd_int q_a0))) (q_aC (q_tup (q_aC (q_tup (q_aC pd_int (q_aC pd_int q_a0))) (q_aC (q_neg pd_int) q_a0))) (q_aC (q_tup (q_aC (q_tup (q_aC pd_int (q_aC pd_bl q_a0))) (q_aC pd_int q_a0))) (q_aC (q_tup (q_aC (q_tup (q_aC pd_int (q_aC pd_int q_a0))) (q_aC pd_str q_a0))) (q_aC (q_lst (q_aC (q_tup (q_aC pd_int (q_aC pd_int q_a0))) (q_aC pd_int q_a0))) (q_aC (q_tup (q_aC (q_tup (q_aC pd_int (q_aC pd_int q_a0))) q_a0)) (q_aC (q_tup (q_aC (q_lst (q_aC pd_int (q_aC pd_int q_a0))) (q_aC pd_int q_a0))) (q_aC pd_non q_a0)))))))))
   (pds_one (q_ret (q_ix (q_lst (q_aC (q_tup (q_aC (pd_var 5) q_a0)) (q_aC pd_non (q_aC (q_lst (q_aC (pd_var 5) (q_aC (q_ixO 3 (q_bin od_mod (q_bin od_fdiv (pd_var 1) pd_int) pd_int)) q_a0))) q_a0)))) (q_blt (cd_min rfl) T.b_min (by rfl) (q_aC pd_int (q_aC (q_bin od_mod (pd_var 1) pd_int) q_a0)))))))))))))

theorem ok_is_whole {f : Addr} {fd : FuncData} (F : Fun K "is_whole" "is_whole" (top 18) f fd) (hx : mg "is_whole" = some (.ref f)) (T : Txt K mg) : Fn P w K mg base "is_whole" 1 1 g_is_whole := by
 have S : FnScope ["thing"] ["thing"] (defScope (top 18)) := ⟨rfl, rfl, rfl, by decide +kernel, rfl, by decide +kernel, by decide +kernel⟩
 refine def_ok (m := 0) (k := 0) (Fb := F_is_whole) F S rfl (fun _ _ _ _ _ _ us hl => match us, hl with | [_], _ => rfl) hx fun cdv A outer s H E G₀ hr => ?_
 have hu := hr.units
 exact (pds_one (q_ret (q_and (q_isi (isi_int _) T.b_isinstance T.b_int (by rfl) (pd_var 0)) (pd_one (q_not (q_isi (isi_bool _) T.b_isinstance T.b_bool (by rfl) (pd_var 0)))))))

theorem ok_is_from {f : Addr} {fd : FuncData} (F : Fun K "is_from" "is_from" (top 19) f fd) (hx : mg "is_from" = some (.ref f)) (T : Txt K mg) (h_is_whole : Fn P w K mg base "is_whole" 1 1 g_is_whole) : Fn P w K mg base "is_from" 2 2 g_is_from := by
 have S : FnScope ["thing", "lowest"] ["thing", "lowest"] (defScope (top 19)) := ⟨rfl, rfl, rfl, by decide +kernel, rfl, by decide +kernel, by decide +kernel⟩
 refine def_ok (m := 0) (k := 1) (Fb := F_is_from) F S rfl (fun _ _ _ _ _ _ us hl => match us, hl with | [_, _], _ => rfl) hx fun cdv A outer s H E G₀ hr => ?_
 have hu := hr.units
 exact (pds_one (q_ret (q_and (q_call h_is_whole (hr.mono (by decide)) (q_aC (pd_var 0) q_a0)) (pd_one (q_cmp od_ge (pd_var 0) (pd_var 1))))))

theorem ok_is_within {f : Addr} {fd : FuncData} (F : Fun K "is_within" "is_within" (top 20) f fd) (hx : mg "is_within" = some (.ref f)) (T : Txt K mg) (h_is_from : Fn P w K mg base "is_from" 2 2 g_is_from) : Fn P w K mg base "is_within" 3 3 g_is_within := by
 have S : FnScope ["thing", "lowest", "highest"] ["thing", "lowest", "highest"] (defScope (top 20)) := ⟨rfl, rfl, rfl, by decide +kernel, rfl, by decide +kernel, by decide +kernel⟩
 refine def_ok (m := 0) (k := 2) (Fb := F_is_within) F S rfl (fun _ _ _ _ _ _ us hl => match us, hl with | [_, _, _], _ => rfl) hx fun cdv A outer s H E G₀ hr => ?_
 have hu := hr.units
 exact (pds_one (q_ret (q_and (q_call h_is_from (hr.mono (by decide)) (q_aC (pd_var 0) (q_aC (pd_var 1) q_a0))) (pd_one (q_cmp od_le (pd_var 0) (pd_var 2))))))

theorem ok_is_key {f : Addr} {fd : FuncData} (F : Fun K "is_key" "is_key" (top 23) f fd) (hx : mg "is_key" = some (.ref f)) (T : Txt K mg) (h_is_within : Fn P w K mg base "is_within" 3 3 g_is_within) : Fn P w K mg base "is_key" 4 1 g_is_key := by
 have S : FnScope ["thing"] ["thing"] (defScope (top 23)) := ⟨rfl, rfl, rfl, by decide +kernel, rfl, by decide +kernel, by decide +kernel⟩
 refine def_ok (m := 0) (k := 3) (Fb := F_is_key) F S rfl (fun _ _ _ _ _ _ us hl => match us, hl with | [_], _ => rfl) hx fun cdv A outer s H E G₀ hr => ?_
 have hu := hr.units
 exact (pds_cons (q_ifS (PW.pt (q_wor (q_tnot (q_tval (q_isi (isi_tuple _) T.b_isinstance T.b_tuple (by rfl) (pd_var 0)))) (q_w1o (q_tcmp (od_ne hu) (q_blt cd_len T.b_len (by rfl) (q_aC (pd_var 0) q_a0)) pd_int)))) (pds_one (q_ret pd_bl)) pds_nil)
   (pds_cons (q_ifS (q_tnot (q_tval (q_call h_is_within (hr.mono (by decide)) (q_aC (q_ix (pd_var 0) pd_int) (q_aC pd_int (q_aC (q_gint T.c_MOST_FEW) q_a0)))))) (pds_one (q_ret pd_bl)) pds_nil)
   (pds_one (q_ret (q_and (q_call h_is_within (hr.mono (by decide)) (q_aC (q_ix (pd_var 0) pd_int) (q_aC pd_int (q_aC (q_gint T.c_MOST_TIMES) q_a0)))) (pd_one (q_call h_is_within (hr.mono (by decide)) (q_aC (q_ix (pd_var 0) pd_int) (q_aC pd_int (q_aC (q_gint T.c_MOST_MANY) q_a0))))))))))

theorem ok_check_key {f : Addr} {fd : FuncData} (F : Fun K "check_key" "check_key" (top 25) f fd) (hx : mg "check_key" = some (.ref f)) (T : Txt K mg) (h_is_key : Fn P w K mg base "is_key" 4 1 g_is_key) : FnX P w K mg base "check_key" 5 1 g_check_key := by
 have S : FnScope ["thing"] ["thing"] (defScope (top 25)) := ⟨rfl, rfl, rfl, by decide +kernel, rfl, by decide +kernel, by decide +kernel⟩
 refine def_okX (m := 0) (k := 4) (Fb := F_check_key) F S rfl (fun _ _ _ _ _ _ us hl => match us, hl with | [_], _ => rfl) hx fun cdv A outer s H E G₀ hr => ?_
 have hu := hr.units
 exact (pds_one (q_ifS (q_tnot (q_tval (q_call h_is_key (hr.mono (by decide)) (q_aC (pd_var 0) q_a0)))) (pds_one (q_raise rfl T.x_NoKey (q_aC pd_str q_a0))) pds_nil))

theorem ok_is_sign {f : Addr} {fd : FuncData} (F : Fun K "is_sign" "is_sign" (top 21) f fd) (hx : mg "is_sign" = some (.ref f)) (T : Txt K mg) : Fn P w K mg base "is_sign" 1 1 g_is_sign := by
 have S : FnScope ["sign", "worth"] ["sign"] (defScope (top 21)) := ⟨rfl, rfl, rfl, by decide +kernel, rfl, by decide +kernel, by decide +kernel⟩
 refine def_ok (m := 1) (k := 0) (Fb := F_is_sign) F S rfl (fun _ _ _ _ _ _ us hl => match us, hl with | [_], _ => rfl) hx fun cdv A outer s H E G₀ hr => ?_
 have hu := hr.units
 exact (pds_cons (q_set 1 S.nd (q_blt cd_ord T.b_ord (by rfl) (q_aC (pd_var 0) q_a0)))
   (pds_one (q_ret (q_and (q_chain od_le od_le (q_gint T.c_BLANK) (pd_var 1) (q_gint T.c_TILDE)) (pd_one (q_cmp (od_ne hu) (pd_var 1) (q_gint T.c_PERCENT)))))))

theorem ok_is_text {f : Addr} {fd : FuncData} (F : Fun K "is_text" "is_text" (top 22) f fd) (hx : mg "is_text" = some (.ref f)) (T : Txt K mg) (h_is_sign : Fn P w K mg base "is_sign" 1 1 g_is_sign) : Fn P w K mg base "is_text" 2 1 g_is_text := by
 have S : FnScope ["thing"] ["thing"] (defScope (top 22)) := ⟨rfl, rfl, rfl, by decide +kernel, rfl, by decide +kernel, by decide +kernel⟩
 refine def_ok (m := 0) (k := 1) (Fb := F_is_text) F S rfl (fun _ _ _ _ _ _ us hl => match us, hl with | [_], _ => rfl) hx fun cdv A outer s H E G₀ hr => ?_
 have hu := hr.units
 exact (pds_cons (q_ifS (PW.pt (q_wor (q_tnot (q_tval (q_isi (isi_str _) T.b_isinstance T.b_str (by rfl) (pd_var 0)))) (q_w1o (q_tcmp od_gt (q_blt cd_len T.b_len (by rfl) (q_aC (pd_var 0) q_a0)) (q_gint T.c_MOST_SIGNS))))) (pds_one (q_ret pd_bl)) pds_nil)
   (pds_one (q_ret (q_blt (cd_all rfl) T.b_all (by rfl) (q_aC (q_comp (sc := defScope (top 22)) (N := ["thing"]) [] (by decide +kernel) rfl rfl rfl (q_it (pd_var 0)) .nil fun C s₀ H₀ fp B G₀ => (q_call h_is_sign (hr.mono (by decide)) (q_aC (pd_var 0) q_a0))) q_a0)))))

theorem ok_check_text {f : Addr} {fd : FuncData} (F : Fun K "check_text" "check_text" (top 24) f fd) (hx : mg "check_text" = some (.ref f)) (T : Txt K mg) (h_is_text : Fn P w K mg base "is_text" 2 1 g_is_text) : FnX P w K mg base "check_text" 3 1 g_check_text := by
 have S : FnScope ["thing"] ["thing"] (defScope (top 24)) := ⟨rfl, rfl, rfl, by decide +kernel, rfl, by decide +kernel, by decide +kernel⟩
 refine def_okX (m := 0) (k := 2) (Fb := F_check_text) F S rfl (fun _ _ _ _ _ _ us hl => match us, hl with | [_], _ => rfl) hx fun cdv A outer s H E G₀ hr => ?_
 have hu := hr.units
 exact (pds_one (q_ifS (q_tnot (q_tval (q_call h_is_text (hr.mono (by decide)) (q_aC (pd_var 0) q_a0)))) (pds_one (q_raise rfl T.x_NoSigns (q_aC pd_str q_a0))) pds_nil))

theorem ok_is_copy {f : Addr} {fd : FuncData} (F : Fun K "is_copy" "is_copy" (top 37) f fd) (hx : mg "is_copy" = some (.ref f)) (T : Txt K mg) : Fn P w K mg base "is_copy" 1 1 g_is_copy := by
 have S : FnScope ["piece"] ["piece"] (defScope (top 37)) := ⟨rfl, rfl, rfl, by decide +kernel, rfl, by decide +kernel, by decide +kernel⟩
 refine def_ok (m := 0) (k := 0) (Fb := F_is_copy) F S rfl (fun _ _ _ _ _ _ us hl => match us, hl with | [_], _ => rfl) hx fun cdv A outer s H E G₀ hr => ?_
 have hu := hr.units
 exact (pds_one (q_ret (q_cmp (od_eq hu) (q_ix (pd_var 0) pd_int) pd_str)))

theorem ok_is_piece {f : Addr} {fd : FuncData} (F : Fun K "is_piece" "is_piece" (top 36) f fd) (hx : mg "is_piece" = some (.ref f)) (T : Txt K mg) (h_is_copy : Fn P w K mg base "is_copy" 1 1 g_is_copy) (h_is_from : Fn P w K mg base "is_from" 2 2 g_is_from) (h_is_text : Fn P w K mg base "is_text" 2 1 g_is_text) : Fn P w K mg base "is_piece" 3 1 g_is_piece := by
 have S : FnScope ["thing"] ["thing"] (defScope (top 36)) := ⟨rfl, rfl, rfl, by decide +kernel, rfl, by decide +kernel, by decide +kernel⟩
 refine def_ok (m := 0) (k := 2) (Fb := F_is_piece) F S rfl (fun _ _ _ _ _ _ us hl => match us, hl with | [_], _ => rfl) hx fun cdv A outer s H E G₀ hr => ?_
 have hu := hr.units
 exact (pds_cons (q_ifS (PW.pt (q_wor (q_tnot (q_tval (q_isi (isi_tuple _) T.b_isinstance T.b_tuple (by rfl) (pd_var 0)))) (q_wor (q_tcmp (od_eq hu) (q_blt cd_len T.b_len (by rfl) (q_aC (pd_var 0) q_a0)) pd_int) (q_w1o (q_tnot (q_tval (q_isi (isi_str _) T.b_isinstance T.b_str (by rfl) (q_ix (pd_var 0) pd_int)))))))) (pds_one (q_ret pd_bl)) pds_nil)
   (pds_cons (q_ifS (q_tval (q_call h_is_copy (hr.mono (by decide)) (q_aC (pd_var 0) q_a0))) (pds_one (q_ret (q_and (q_cmp (od_eq hu) (q_blt cd_len T.b_len (by rfl) (q_aC (pd_var 0) q_a0)) pd_int) (q_and (q_call h_is_from (hr.mono (by decide)) (q_aC (q_ix (pd_var 0) pd_int) (q_aC pd_int q_a0))) (pd_one (q_call h_is_from (hr.mono (by decide)) (q_aC (q_ix (pd_var 0) pd_int) (q_aC pd_int q_a0)))))))) pds_nil)
   (pds_cons (q_ifS (PW.pt (q_wor (q_tcmp (od_ne hu) (q_ix (pd_var 0) pd_int) pd_str) (q_w1o (q_tcmp (od_ne hu) (q_blt cd_len T.b_len (by rfl) (q_aC (pd_var 0) q_a0)) pd_int)))) (pds_one (q_ret pd_bl)) pds_nil)
   (pds_one (q_ret (q_and (q_call h_is_text (hr.mono (by decide)) (q_aC (q_ix (pd_var 0) pd_int) q_a0)) (pd_one (q_cmp od_gt (q_blt cd_len T.b_len (by rfl) (q_aC (q_ix (pd_var 0) pd_int) q_a0)) pd_int))))))))

theorem ok_is_letter {f : Addr} {fd : FuncData} (F : Fun K "is_letter" "is_letter" (top 35) f fd) (hx : mg "is_letter" = some (.ref f)) (T : Txt K mg) (h_is_piece : Fn P w K mg base "is_piece" 3 1 g_is_piece) : Fn P w K mg base "is_letter" 4 1 g_is_letter := by
 have S : FnScope ["thing"] ["thing"] (defScope (top 35)) := ⟨rfl, rfl, rfl, by decide +kernel, rfl, by decide +kernel, by decide +kernel⟩
 refine def_ok (m := 0) (k := 3) (Fb := F_is_letter) F S rfl (fun _ _ _ _ _ _ us hl => match us, hl with | [_], _ => rfl) hx fun cdv A outer s H E G₀ hr => ?_
 have hu := hr.units
 exact (pds_cons (q_ifS (PW.pt (q_wor (q_tnot (q_tval (q_isi (isi_list _) T.b_isinstance T.b_list (by rfl) (pd_var 0)))) (q_w1o (q_tcmp od_gt (q_blt cd_len T.b_len (by rfl) (q_aC (pd_var 0) q_a0)) (q_gint T.c_MOST_PIECES))))) (pds_one (q_ret pd_bl)) pds_nil)
   (pds_one (q_ret (q_blt (cd_all rfl) T.b_all (by rfl) (q_aC (q_comp (sc := defScope (top 35)) (N := ["thing"]) [] (by decide +kernel) rfl rfl rfl (q_it (pd_var 0)) .nil fun C s₀ H₀ fp B G₀ => (q_call h_is_piece (hr.mono (by decide)) (q_aC (pd_var 0) q_a0))) q_a0)))))

theorem ok_check_letter {f : Addr} {fd : FuncData} (F : Fun K "check_letter" "check_letter" (top 34) f fd) (hx : mg "check_letter" = some (.ref f)) (T : Txt K mg) (h_is_letter : Fn P w K mg base "is_letter" 4 1 g_is_letter) : FnX P w K mg base "check_letter" 5 1 g_check_letter := by
 have S : FnScope ["thing"] ["thing"] (defScope (top 34)) := ⟨rfl, rfl, rfl, by decide +kernel, rfl, by decide +kernel, by decide +kernel⟩
 refine def_okX (m := 0) (k := 4) (Fb := F_check_letter) F S rfl (fun _ _ _ _ _ _ us hl => match us, hl with | [_], _ => rfl) hx fun cdv A outer s H E G₀ hr => ?_
 have hu := hr.units
 exact (pds_one (q_ifS (q_tnot (q_tval (q_call h_is_letter (hr.mono (by decide)) (q_aC (pd_var 0) q_a0)))) (pds_one (q_raise rfl T.x_NoLetter (q_aC pd_str q_a0))) pds_nil))

theorem ok_plain {f : Addr} {fd : FuncData} (F : Fun K "plain" "plain" (top 32) f fd) (hx : mg "plain" = some (.ref f)) (T : Txt K mg) (h_check_letter : FnX P w K mg base "check_letter" 5 1 g_check_letter) : FnX P w K mg base "plain" 6 1 g_plain := by
 have S : FnScope ["letter"] ["letter"] (defScope (top 32)) := ⟨rfl, rfl, rfl, by decide +kernel, rfl, by decide +kernel, by decide +kernel⟩
 refine def_okX (m := 0) (k := 5) (Fb := F_plain) F S rfl (fun _ _ _ _ _ _ us hl => match us, hl with | [_], _ => rfl) hx fun cdv A outer s H E G₀ hr => ?_
 have hu := hr.units
 exact (pds_cons (q_expr (q_callX h_check_letter (hr.mono (by decide)) (q_aC (pd_var 0) q_a0)))
   (pds_one q_never))

theorem ok_first_sum {f : Addr} {fd : FuncData} (F : Fun K "first_sum" "first_sum" (top 50) f fd) (hx : mg "first_sum" = some (.ref f)) (T : Txt K mg) (h_check_key : FnX P w K mg base "check_key" 5 1 g_check_key) (h_check_text : FnX P w K mg base "check_text" 3 1 g_check_text) (h_plain : FnX P w K mg base "plain" 6 1 g_plain) : FnX P w K mg base "first_sum" 7 2 g_first_sum := by
 have S : FnScope ["key", "text", "few", "plain", "leaning", "sign"] ["key", "text"] (defScope (top 50)) := ⟨rfl, rfl, rfl, by decide +kernel, rfl, by decide +kernel, by decide +kernel⟩
 refine def_okX (m := 4) (k := 6) (Fb := F_first_sum) F S rfl (fun _ _ _ _ _ _ us hl => match us, hl with | [_, _], _ => rfl) hx fun cdv A outer s H E G₀ hr => ?_
 have hu := hr.units
 exact (pds_cons (q_expr (q_callX h_check_key (hr.mono (by decide)) (q_aC (pd_var 0) q_a0)))
   (pds_cons (q_expr (q_callX h_check_text (hr.mono (by decide)) (q_aC (pd_var 1) q_a0)))
   (pds_cons (q_set 2 S.nd (q_ix (pd_var 0) pd_int))
   (pds_cons (q_set 3 S.nd pd_int)
   (pds_cons (q_set 4 S.nd pd_int)
   (pds_cons (q_forX (F := L_first_sum_1) (fun ok => passes1 rfl rfl ok.frames) rfl (q_it (pd_var 1)) (pg_name (i := 5) S.nd rfl (by first | exact Or.inl rfl | exact Or.inr rfl)) (q_tgN 5) fun G₀ => (pds_cons (q_aug 3 ip_addD S.nd (q_blt cd_ord T.b_ord (by rfl) (q_aC (pd_var 5) q_a0)))
   (pds_one (q_aug 4 ip_addD S.nd (pd_var 3)))))
   (pds_one (q_ret (q_tup (q_aC (q_bin od_mod (pd_var 3) (pd_var 2)) (q_aC (q_bin od_mod (pd_var 4) (pd_var 2)) q_a0)))))))))))

theorem ok_chained {f : Addr} {fd : FuncData} (F : Fun K "chained" "chained" (top 55) f fd) (hx : mg "chained" = some (.ref f)) (T : Txt K mg) : Fn P w K mg base "chained" 1 3 g_chained := by
 have S : FnScope ["times", "many", "text", "number", "sign"] ["times", "many", "text"] (defScope (top 55)) := ⟨rfl, rfl, rfl, by decide +kernel, rfl, by decide +kernel, by decide +kernel⟩
 refine def_ok (m := 2) (k := 0) (Fb := F_chained) F S rfl (fun _ _ _ _ _ _ us hl => match us, hl with | [_, _, _], _ => rfl) hx fun cdv A outer s H E G₀ hr => ?_
 have hu := hr.units
 exact (pds_cons (q_set 3 S.nd pd_int)
   (pds_cons (q_for (F := L_chained_1) PassesOwn.never rfl (q_it (pd_var 2)) (pg_name (i := 4) S.nd rfl (by first | exact Or.inl rfl | exact Or.inr rfl)) (q_tgN 4) fun G₀ => (pds_one (q_set 3 S.nd (q_bin od_mod (q_bin od_add (q_bin od_mul (pd_var 0) (pd_var 3)) (q_blt cd_ord T.b_ord (by rfl) (q_aC (pd_var 4) q_a0))) (pd_var 1)))))
   (pds_one (q_ret (pd_var 3)))))

theorem ok_second_sum {f : Addr} {fd : FuncData} (F : Fun K "second_sum" "second_sum" (top 53) f fd) (hx : mg "second_sum" = some (.ref f)) (T : Txt K mg) (h_check_key : FnX P w K mg base "check_key" 5 1 g_check_key) (h_check_text : FnX P w K mg base "check_text" 3 1 g_check_text) (h_chained : Fn P w K mg base "chained" 1 3 g_chained) : FnX P w K mg base "second_sum" 6 2 g_second_sum := by
 have S : FnScope ["key", "text"] ["key", "text"] (defScope (top 53)) := ⟨rfl, rfl, rfl, by decide +kernel, rfl, by decide +kernel, by decide +kernel⟩
 refine def_okX (m := 0) (k := 5) (Fb := F_second_sum) F S rfl (fun _ _ _ _ _ _ us hl => match us, hl with | [_, _], _ => rfl) hx fun cdv A outer s H E G₀ hr => ?_
 have hu := hr.units
 exact (pds_cons (q_expr (q_callX h_check_key (hr.mono (by decide)) (q_aC (pd_var 0) q_a0)))
   (pds_cons (q_expr (q_callX h_check_text (hr.mono (by decide)) (q_aC (pd_var 1) q_a0)))
   (pds_one (q_ret (q_call h_chained (hr.mono (by decide)) (q_aC (q_ix (pd_var 0) pd_int) (q_aC (q_ix (pd_var 0) pd_int) (q_aC (pd_var 1) q_a0))))))))

theorem ok_whole_sum {f : Addr} {fd : FuncData} (F : Fun K "whole_sum" "whole_sum" (top 54) f fd) (hx : mg "whole_sum" = some (.ref f)) (T : Txt K mg) (h_check_key : FnX P w K mg base "check_key" 5 1 g_check_key) (h_check_text : FnX P w K mg base "check_text" 3 1 g_check_text) : FnX P w K mg base "whole_sum" 6 2 g_whole_sum := by
 have S : FnScope ["key", "text"] ["key", "text"] (defScope (top 54)) := ⟨rfl, rfl, rfl, by decide +kernel, rfl, by decide +kernel, by decide +kernel⟩
 refine def_okX (m := 0) (k := 5) (Fb := F_whole_sum) F S rfl (fun _ _ _ _ _ _ us hl => match us, hl with | [_, _], _ => rfl) hx fun cdv A outer s H E G₀ hr => ?_
 have hu := hr.units
 exact (pds_cons (q_expr (q_callX h_check_key (hr.mono (by decide)) (q_aC (pd_var 0) q_a0)))
   (pds_cons (q_expr (q_callX h_check_text (hr.mono (by decide)) (q_aC (pd_var 1) q_a0)))
   (pds_one q_never)))

theorem ok_rolled {f : Addr} {fd : FuncData} (F : Fun K "rolled" "rolled" (top 51) f fd) (hx : mg "rolled" = some (.ref f)) (T : Txt K mg) (h_check_key : FnX P w K mg base "check_key" 5 1 g_check_key) : FnX P w K mg base "rolled" 6 5 g_rolled := by
 have S : FnScope ["key", "found", "many", "gone", "come", "few", "plain", "leaning"] ["key", "found", "many", "gone", "come"] (defScope (top 51)) := ⟨rfl, rfl, rfl, by decide +kernel, rfl, by decide +kernel, by decide +kernel⟩
 refine def_okX (m := 3) (k := 5) (Fb := F_rolled) F S rfl (fun _ _ _ _ _ _ us hl => match us, hl with | [_, _, _, _, _], _ => rfl) hx fun cdv A outer s H E G₀ hr => ?_
 have hu := hr.units
 exact (pds_cons (q_expr (q_callX h_check_key (hr.mono (by decide)) (q_aC (pd_var 0) q_a0)))
   (pds_cons q_never
   (pds_cons q_never
   (pds_cons q_never
   (pds_one q_never)))))

theorem ok_check_size {f : Addr} {fd : FuncData} (F : Fun K "check_size" "check_size" (top 26) f fd) (hx : mg "check_size" = some (.ref f)) (T : Txt K mg) (h_is_within : Fn P w K mg base "is_within" 3 3 g_is_within) : FnX P w K mg base "check_size" 4 1 g_check_size := by
 have S : FnScope ["thing"] ["thing"] (defScope (top 26)) := ⟨rfl, rfl, rfl, by decide +kernel, rfl, by decide +kernel, by decide +kernel⟩
 refine def_okX (m := 0) (k := 3) (Fb := F_check_size) F S rfl (fun _ _ _ _ _ _ us hl => match us, hl with | [_], _ => rfl) hx fun cdv A outer s H E G₀ hr => ?_
 have hu := hr.units
 exact (pds_one (q_ifS (q_tnot (q_tval (q_call h_is_within (hr.mono (by decide)) (q_aC (pd_var 0) (q_aC pd_int (q_aC (q_gint T.c_MOST_SIZE) q_a0)))))) (pds_one (q_raise rfl T.x_NoSize (q_aC pd_str q_a0))) pds_nil))

theorem ok_card_of {f : Addr} {fd : FuncData} (F : Fun K "card_of" "card_of" (top 59) f fd) (hx : mg "card_of" = some (.ref f)) (T : Txt K mg) (h_first_sum : FnX P w K mg base "first_sum" 7 2 g_first_sum) (h_second_sum : FnX P w K mg base "second_sum" 6 2 g_second_sum) : FnX P w K mg base "card_of" 8 2 g_card_of := by
 have S : FnScope ["key", "block"] ["key", "block"] (defScope (top 59)) := ⟨rfl, rfl, rfl, by decide +kernel, rfl, by decide +kernel, by decide +kernel⟩
 refine def_okX (m := 0) (k := 7) (Fb := F_card_of) F S rfl (fun _ _ _ _ _ _ us hl => match us, hl with | [_, _], _ => rfl) hx fun cdv A outer s H E G₀ hr => ?_
 have hu := hr.units
 exact (pds_one (q_ret (q_tup (q_aC (q_callX h_first_sum (hr.mono (by decide)) (q_aC (pd_var 0) (q_aC (pd_var 1) q_a0))) (q_aC (q_callX h_second_sum (hr.mono (by decide)) (q_aC (pd_var 0) (q_aC (pd_var 1) q_a0))) q_a0)))))

theorem ok_cards {f : Addr} {fd : FuncData} (F : Fun K "cards" "cards" (top 57) f fd) (hx : mg "cards" = some (.ref f)) (T : Txt K mg) (h_check_key : FnX P w K mg base "check_key" 5 1 g_check_key) (h_check_size : FnX P w K mg base "check_size" 4 1 g_check_size) (h_check_text : FnX P w K mg base "check_text" 3 1 g_check_text) (h_card_of : FnX P w K mg base "card_of" 8 2 g_card_of) : FnX P w K mg base "cards" 9 3 g_cards := by
 have S : FnScope ["key", "size", "elder"] ["key", "size", "elder"] (defScope (top 57)) := ⟨rfl, rfl, rfl, by decide +kernel, rfl, by decide +kernel, by decide +kernel⟩
 refine def_okX (m := 0) (k := 8) (Fb := F_cards) F S rfl (fun _ _ _ _ _ _ us hl => match us, hl with | [_, _, _], _ => rfl) hx fun cdv A outer s H E G₀ hr => ?_
 have hu := hr.units
 exact (pds_cons (q_expr (q_callX h_check_key (hr.mono (by decide)) (q_aC (pd_var 0) q_a0)))
   (pds_cons (q_expr (q_callX h_check_size (hr.mono (by decide)) (q_aC (pd_var 1) q_a0)))
   (pds_cons (q_expr (q_callX h_check_text (hr.mono (by decide)) (q_aC (pd_var 2) q_a0)))
   (pds_one (q_ret (q_compX (sc := defScope (top 57)) (N := ["key", "size", "elder"]) [("key", 0), ("elder", 2), ("size", 1)] (by decide +kernel) rfl rfl rfl (q_rng3 T.b_range (q_aC pd_int (q_aC (q_bin od_add (q_bin od_sub (q_blt cd_len T.b_len (by rfl) (q_aC (pd_var 2) q_a0)) (pd_var 1)) pd_int) (q_aC (pd_var 1) q_a0)))) fun C s₀ H₀ fp E B G₀ => (q_callX h_card_of (hr.mono (by decide)) (q_aC (pd_var 1) (q_aC (q_slice (pd_var 2) (q_part (pd_var 0)) (q_part (q_bin od_add (pd_var 0) (pd_var 3)))) q_a0)))))))))

theorem ok_is_card {f : Addr} {fd : FuncData} (F : Fun K "is_card" "is_card" (top 61) f fd) (hx : mg "is_card" = some (.ref f)) (T : Txt K mg) (h_is_from : Fn P w K mg base "is_from" 2 2 g_is_from) : Fn P w K mg base "is_card" 3 1 g_is_card := by
 have S : FnScope ["thing", "first"] ["thing"] (defScope (top 61)) := ⟨rfl, rfl, rfl, by decide +kernel, rfl, by decide +kernel, by decide +kernel⟩
 refine def_ok (m := 1) (k := 2) (Fb := F_is_card) F S rfl (fun _ _ _ _ _ _ us hl => match us, hl with | [_], _ => rfl) hx fun cdv A outer s H E G₀ hr => ?_
 have hu := hr.units
 exact (pds_cons (q_ifS (PW.pt (q_wor (q_tnot (q_tval (q_isi (isi_tuple _) T.b_isinstance T.b_tuple (by rfl) (pd_var 0)))) (q_w1o (q_tcmp (od_ne hu) (q_blt cd_len T.b_len (by rfl) (q_aC (pd_var 0) q_a0)) pd_int)))) (pds_one (q_ret pd_bl)) pds_nil)
   (pds_cons (q_set 1 S.nd (q_ix (pd_var 0) pd_int))
   (pds_cons (q_ifS (PW.pt (q_wor (q_tnot (q_tval (q_isi (isi_tuple _) T.b_isinstance T.b_tuple (by rfl) (pd_var 1)))) (q_w1o (q_tcmp (od_ne hu) (q_blt cd_len T.b_len (by rfl) (q_aC (pd_var 1) q_a0)) pd_int)))) (pds_one (q_ret pd_bl)) pds_nil)
   (pds_one (q_ret (q_and (q_call h_is_from (hr.mono (by decide)) (q_aC (q_ix (pd_var 1) pd_int) (q_aC pd_int q_a0))) (q_and (q_call h_is_from (hr.mono (by decide)) (q_aC (q_ix (pd_var 1) pd_int) (q_aC pd_int q_a0))) (pd_one (q_call h_is_from (hr.mono (by decide)) (q_aC (q_ix (pd_var 0) pd_int) (q_aC pd_int q_a0)))))))))))

theorem ok_check_cards {f : Addr} {fd : FuncData} (F : Fun K "check_cards" "check_cards" (top 60) f fd) (hx : mg "check_cards" = some (.ref f)) (T : Txt K mg) (h_is_card : Fn P w K mg base "is_card" 3 1 g_is_card) : FnX P w K mg base "check_cards" 4 1 g_check_cards := by
 have S : FnScope ["thing"] ["thing"] (defScope (top 60)) := ⟨rfl, rfl, rfl, by decide +kernel, rfl, by decide +kernel, by decide +kernel⟩
 refine def_okX (m := 0) (k := 3) (Fb := F_check_cards) F S rfl (fun _ _ _ _ _ _ us hl => match us, hl with | [_], _ => rfl) hx fun cdv A outer s H E G₀ hr => ?_
 have hu := hr.units
 exact (pds_one (q_ifS (PW.pt (q_wor (q_tnot (q_tval (q_isi (isi_list _) T.b_isinstance T.b_list (by rfl) (pd_var 0)))) (q_w1o (q_tnot (q_tval (q_blt (cd_all rfl) T.b_all (by rfl) (q_aC (q_comp (sc := defScope (top 60)) (N := ["thing"]) [] (by decide +kernel) rfl rfl rfl (q_it (pd_var 0)) .nil fun C s₀ H₀ fp B G₀ => (q_call h_is_card (hr.mono (by decide)) (q_aC (pd_var 0) q_a0))) q_a0))))))) (pds_one (q_raise rfl T.x_NoCards (q_aC pd_str q_a0))) pds_nil))

theorem ok_found_by {f : Addr} {fd : FuncData} (F : Fun K "found_by" "found_by" (top 58) f fd) (hx : mg "found_by" = some (.ref f)) (T : Txt K mg) (h_check_key : FnX P w K mg base "check_key" 5 1 g_check_key) (h_check_size : FnX P w K mg base "check_size" 4 1 g_check_size) (h_check_cards : FnX P w K mg base "check_cards" 4 1 g_check_cards) (h_check_text : FnX P w K mg base "check_text" 3 1 g_check_text) : FnX P w K mg base "found_by" 6 4 g_found_by := by
 have S : FnScope ["key", "size", "told", "newer", "firsts", "earliest", "pieces", "place", "awaited", "block", "card"] ["key", "size", "told", "newer"] (defScope (top 58)) := ⟨rfl, rfl, rfl, by decide +kernel, rfl, by decide +kernel, by decide +kernel⟩
 refine def_okX (m := 7) (k := 5) (Fb := F_found_by) F S rfl (fun _ _ _ _ _ _ us hl => match us, hl with | [_, _, _, _], _ => rfl) hx fun cdv A outer s H E G₀ hr => ?_
 have hu := hr.units
 exact (pds_cons (q_expr (q_callX h_check_key (hr.mono (by decide)) (q_aC (pd_var 0) q_a0)))
   (pds_cons (q_expr (q_callX h_check_size (hr.mono (by decide)) (q_aC (pd_var 1) q_a0)))
   (pds_cons (q_expr (q_callX h_check_cards (hr.mono (by decide)) (q_aC (pd_var 2) q_a0)))
   (pds_cons (q_expr (q_callX h_check_text (hr.mono (by decide)) (q_aC (pd_var 3) q_a0)))
   (pds_cons q_never
   (pds_cons q_never
   (pds_cons q_never
   (pds_cons q_never
   (pds_cons q_never
   (pds_cons q_never
   (pds_one q_never)))))))))))

theorem ok_talk {f : Addr} {fd : FuncData} (F : Fun K "talk" "talk" (top 81) f fd) (hx : mg "talk" = some (.ref f)) (T : Txt K mg) (h_found_by : FnX P w K mg base "found_by" 6 4 g_found_by) (h_cards : FnX P w K mg base "cards" 9 3 g_cards) : FnX P w K mg base "talk" 10 4 g_talk := by
 have S : FnScope ["key", "size", "elder", "newer", "letter", "made"] ["key", "size", "elder", "newer"] (defScope (top 81)) := ⟨rfl, rfl, rfl, by decide +kernel, rfl, by decide +kernel, by decide +kernel⟩
 refine def_okX (m := 2) (k := 9) (Fb := F_talk) F S rfl (fun _ _ _ _ _ _ us hl => match us, hl with | [_, _, _, _], _ => rfl) hx fun cdv A outer s H E G₀ hr => ?_
 have hu := hr.units
 exact (pds_cons (q_set 4 S.nd (q_callX h_found_by (hr.mono (by decide)) (q_aC (pd_var 0) (q_aC (pd_var 1) (q_aC (q_callX h_cards (hr.mono (by decide)) (q_aC (pd_var 0) (q_aC (pd_var 1) (q_aC (pd_var 2) q_a0)))) (q_aC (pd_var 3) q_a0))))))
   (pds_cons q_never
   (pds_cons q_never
   (pds_one q_never))))

theorem ok_first_places {f : Addr} {fd : FuncData} (F : Fun K "first_places" "first_places" (top 68) f fd) (hx : mg "first_places" = some (.ref f)) (T : Txt K mg) : Fn P w K mg base "first_places" 1 1 g_first_places := by
 have S : FnScope ["texts", "places", "place", "text"] ["texts"] (defScope (top 68)) := ⟨rfl, rfl, rfl, by decide +kernel, rfl, by decide +kernel, by decide +kernel⟩
 refine def_ok (m := 3) (k := 0) (Fb := F_first_places) F S rfl (fun _ _ _ _ _ _ us hl => match us, hl with | [_], _ => rfl) hx fun cdv A outer s H E G₀ hr => ?_
 have hu := hr.units
 exact (pds_cons (q_newD 1 S.nd)
   (pds_cons (q_set 2 S.nd pd_int)
   (pds_cons (q_for (F := L_first_places_1) PassesOwn.never rfl (q_it (pd_var 0)) (pg_name (i := 3) S.nd rfl (by first | exact Or.inl rfl | exact Or.inr rfl)) (q_tgN 3) fun G₀ => (pds_cons (q_setd 1 (q_aC (pd_var 3) (q_aC (pd_var 2) q_a0)))
   (pds_one (q_aug 2 ip_addD S.nd (q_blt cd_len T.b_len (by rfl) (q_aC (pd_var 3) q_a0))))))
   (pds_one (q_share (q_ret (pd_var 1)))))))

theorem ok_rolled_sums {f : Addr} {fd : FuncData} (F : Fun K "rolled_sums" "rolled_sums" (top 52) f fd) (hx : mg "rolled_sums" = some (.ref f)) (T : Txt K mg) (h_first_sum : FnX P w K mg base "first_sum" 7 2 g_first_sum) (h_rolled : FnX P w K mg base "rolled" 6 5 g_rolled) : FnX P w K mg base "rolled_sums" 8 3 g_rolled_sums := by
 have S : FnScope ["key", "size", "text", "found", "firsts", "place"] ["key", "size", "text"] (defScope (top 52)) := ⟨rfl, rfl, rfl, by decide +kernel, rfl, by decide +kernel, by decide +kernel⟩
 refine def_okX (m := 3) (k := 7) (Fb := F_rolled_sums) F S rfl (fun _ _ _ _ _ _ us hl => match us, hl with | [_, _, _], _ => rfl) hx fun cdv A outer s H E G₀ hr => ?_
 have hu := hr.units
 exact (pds_cons (q_ifS (q_tcmp od_lt (q_blt cd_len T.b_len (by rfl) (q_aC (pd_var 2) q_a0)) (pd_var 1)) (pds_one (q_ret (q_lst q_a0))) pds_nil)
   (pds_cons (q_set 3 S.nd (q_callX h_first_sum (hr.mono (by decide)) (q_aC (pd_var 0) (q_aC (q_slice (pd_var 2) q_noPart (q_part (pd_var 1))) q_a0))))
   (pds_cons (q_own 4 S.nd (q_aC (pd_var 3) q_a0))
   (pds_cons (q_forX (F := L_rolled_sums_1) (fun ok => passes1 rfl rfl ok.frames) rfl (q_rng1 T.b_range (q_aC (q_bin od_sub (q_blt cd_len T.b_len (by rfl) (q_aC (pd_var 2) q_a0)) (pd_var 1)) q_a0)) (pg_name (i := 5) S.nd rfl (by first | exact Or.inl rfl | exact Or.inr rfl)) (q_tgN 5) fun G₀ => (pds_cons (q_set 3 S.nd (q_callX h_rolled (hr.mono (by decide)) (q_aC (pd_var 0) (q_aC (pd_var 3) (q_aC (pd_var 1) (q_aC (q_ix (pd_var 2) (pd_var 5)) (q_aC (q_ix (pd_var 2) (q_bin od_add (pd_var 5) (pd_var 1))) q_a0)))))))
   (pds_one (q_mut 4 app_ne PySem.F.slot_list_append PySem.F.type_list_append mt_append mut_append (q_aC (pd_var 3) q_a0)))))
   (pds_one (q_share (q_ret (pd_var 4))))))))

theorem ok_cut_places {f : Addr} {fd : FuncData} (F : Fun K "cut_places" "cut_places" (top 65) f fd) (hx : mg "cut_places" = some (.ref f)) (T : Txt K mg) (h_check_key : FnX P w K mg base "check_key" 5 1 g_check_key) (h_check_size : FnX P w K mg base "check_size" 4 1 g_check_size) (h_check_text : FnX P w K mg base "check_text" 3 1 g_check_text) (h_rolled_sums : FnX P w K mg base "rolled_sums" 8 3 g_rolled_sums) : FnX P w K mg base "cut_places" 9 4 g_cut_places := by
 have S : FnScope ["key", "window", "part", "text", "firsts"] ["key", "window", "part", "text"] (defScope (top 65)) := ⟨rfl, rfl, rfl, by decide +kernel, rfl, by decide +kernel, by decide +kernel⟩
 refine def_okX (m := 1) (k := 8) (Fb := F_cut_places) F S rfl (fun _ _ _ _ _ _ us hl => match us, hl with | [_, _, _, _], _ => rfl) hx fun cdv A outer s H E G₀ hr => ?_
 have hu := hr.units
 exact (pds_cons (q_expr (q_callX h_check_key (hr.mono (by decide)) (q_aC (pd_var 0) q_a0)))
   (pds_cons (q_expr (q_callX h_check_size (hr.mono (by decide)) (q_aC (pd_var 1) q_a0)))
   (pds_cons (q_expr (q_callX h_check_size (hr.mono (by decide)) (q_aC (pd_var 2) q_a0)))
   (pds_cons (q_expr (q_callX h_check_text (hr.mono (by decide)) (q_aC (pd_var 3) q_a0)))
   (pds_cons (q_set 4 S.nd (q_callX h_rolled_sums (hr.mono (by decide)) (q_aC (pd_var 0) (q_aC (pd_var 1) (q_aC (pd_var 3) q_a0)))))
   (pds_one (q_ret (q_comp2 (sc := defScope (top 65)) (N := ["key", "window", "part", "text", "firsts"]) [("window", 1), ("part", 2)] (by decide +kernel) rfl rfl rfl (q_enum T.b_enumerate (pd_var 4)) (Tst2.one fun C s₀ H₀ fp B G₀ => (q_tcmp (od_eq hu) (q_bin od_mod (q_bin od_add (q_ix (pd_var 1) pd_int) (q_ix (pd_var 1) pd_int)) (pd_var 3)) pd_int)) fun C s₀ H₀ fp B G₀ => (q_bin od_add (pd_var 0) (pd_var 2))))))))))

theorem ok_stretches {f : Addr} {fd : FuncData} (F : Fun K "stretches" "stretches" (top 66) f fd) (hx : mg "stretches" = some (.ref f)) (T : Txt K mg) (h_cut_places : FnX P w K mg base "cut_places" 9 4 g_cut_places) : FnX P w K mg base "stretches" 10 4 g_stretches := by
 have S : FnScope ["key", "window", "part", "text", "found", "begin", "end"] ["key", "window", "part", "text"] (defScope (top 66)) := ⟨rfl, rfl, rfl, by decide +kernel, rfl, by decide +kernel, by decide +kernel⟩
 refine def_okX (m := 3) (k := 9) (Fb := F_stretches) F S rfl (fun _ _ _ _ _ _ us hl => match us, hl with | [_, _, _, _], _ => rfl) hx fun cdv A outer s H E G₀ hr => ?_
 have hu := hr.units
 exact (pds_cons (q_own 4 S.nd q_a0)
   (pds_cons (q_set 5 S.nd pd_int)
   (pds_cons (q_forX (F := L_stretches_1) (fun ok => passes1 rfl rfl ok.frames) rfl (q_it (q_callX h_cut_places (hr.mono (by decide)) (q_aC (pd_var 0) (q_aC (pd_var 1) (q_aC (pd_var 2) (q_aC (pd_var 3) q_a0)))))) (pg_name (i := 6) S.nd rfl (by first | exact Or.inl rfl | exact Or.inr rfl)) (q_tgN 6) fun G₀ => (pds_cons (q_mut 4 app_ne PySem.F.slot_list_append PySem.F.type_list_append mt_append mut_append (q_aC (q_slice (pd_var 3) (q_part (pd_var 5)) (q_part (pd_var 6))) q_a0))
   (pds_one (q_set 5 S.nd (pd_var 6)))))
   (pds_cons (q_ifS (q_tcmp od_lt (pd_var 5) (q_blt cd_len T.b_len (by rfl) (q_aC (pd_var 3) q_a0))) (pds_one (q_mut 4 app_ne PySem.F.slot_list_append PySem.F.type_list_append mt_append mut_append (q_aC (q_slice (pd_var 3) (q_part (pd_var 5)) q_noPart) q_a0))) pds_nil)
   (pds_one (q_share (q_ret (pd_var 4))))))))

theorem ok_found_by_cuts {f : Addr} {fd : FuncData} (F : Fun K "found_by_cuts" "found_by_cuts" (top 67) f fd) (hx : mg "found_by_cuts" = some (.ref f)) (T : Txt K mg) (h_first_places : Fn P w K mg base "first_places" 1 1 g_first_places) (h_stretches : FnX P w K mg base "stretches" 10 4 g_stretches) (h_plain : FnX P w K mg base "plain" 6 1 g_plain) : FnX P w K mg base "found_by_cuts" 11 5 g_found_by_cuts := by
 have S : FnScope ["key", "window", "part", "elder", "newer", "places"] ["key", "window", "part", "elder", "newer"] (defScope (top 67)) := ⟨rfl, rfl, rfl, by decide +kernel, rfl, by decide +kernel, by decide +kernel⟩
 refine def_okX (m := 1) (k := 10) (Fb := F_found_by_cuts) F S rfl (fun _ _ _ _ _ _ us hl => match us, hl with | [_, _, _, _, _], _ => rfl) hx fun cdv A outer s H E G₀ hr => ?_
 have hu := hr.units
 exact (pds_cons (q_set 5 S.nd (q_call h_first_places (hr.mono (by decide)) (q_aC (q_callX h_stretches (hr.mono (by decide)) (q_aC (pd_var 0) (q_aC (pd_var 1) (q_aC (pd_var 2) (q_aC (pd_var 3) q_a0))))) q_a0)))
   (pds_one (q_ret (q_callX h_plain (hr.mono (by decide)) (q_aC (q_comp (sc := defScope (top 67)) (N := ["key", "window", "part", "elder", "newer", "places"]) [("places", 5)] (by decide +kernel) rfl rfl rfl (q_it (q_callX h_stretches (hr.mono (by decide)) (q_aC (pd_var 0) (q_aC (pd_var 1) (q_aC (pd_var 2) (q_aC (pd_var 4) q_a0)))))) .nil fun C s₀ H₀ fp B G₀ => pd_never) q_a0)))))

theorem ok__law_with_key {f : Addr} {fd : FuncData} (F : Fun K "_law_with_key" "_law_with_key" (top 86) f fd) (hx : mg "_law_with_key" = some (.ref f)) (T : Txt K mg) (h_first_sum : FnX P w K mg base "first_sum" 7 2 g_first_sum) (h_second_sum : FnX P w K mg base "second_sum" 6 2 g_second_sum) (h_whole_sum : FnX P w K mg base "whole_sum" 6 2 g_whole_sum) (h_rolled : FnX P w K mg base "rolled" 6 5 g_rolled) (h_cards : FnX P w K mg base "cards" 9 3 g_cards) (h_found_by : FnX P w K mg base "found_by" 6 4 g_found_by) (h_talk : FnX P w K mg base "talk" 10 4 g_talk) (h_found_by_cuts : FnX P w K mg base "found_by_cuts" 11 5 g_found_by_cuts) (h_cut_places : FnX P w K mg base "cut_places" 9 4 g_cut_places) (h_stretches : FnX P w K mg base "stretches" 10 4 g_stretches) : FnX P w K mg base "_law_with_key" 12 4 g__law_with_key := by
 have S : FnScope ["_law_what", "_law_bad_here", "_law_size", "_law_text"] ["_law_what", "_law_bad_here", "_law_size", "_law_text"] (defScope (top 86)) := ⟨rfl, rfl, rfl, by decide +kernel, rfl, by decide +kernel, by decide +kernel⟩
 refine def_okX (m := 0) (k := 11) (Fb := F__law_with_key) F S rfl (fun _ _ _ _ _ _ us hl => match us, hl with | [_, _, _, _], _ => rfl) hx fun cdv A outer s H E G₀ hr => ?_
 have hu := hr.units
 exact (pds_cons (q_ifS (q_tcmp od_lt (pd_var 0) pd_int) (pds_one (q_ret (q_callL (xs := [("first_sum", _), ("second_sum", _), ("whole_sum", _)]) (gs := [g_first_sum, g_second_sum, g_whole_sum]) (fns_cons (p := _) h_first_sum (hr.mono (by decide)) (fns_cons (p := _) h_second_sum (hr.mono (by decide)) (fns_cons (p := _) h_whole_sum (hr.mono (by decide)) fns_nil))) (by decide) (pd_var 0) (q_aC (pd_var 1) (q_aC (pd_var 3) q_a0))))) pds_nil)
   (pds_cons (q_ifS (q_tcmp (od_eq hu) (pd_var 0) pd_int) (pds_one (q_ret (q_callX h_rolled (hr.mono (by decide)) (q_aC (pd_var 1) (q_aC (q_tup (q_aC pd_int (q_aC pd_int q_a0))) (q_aC pd_int (q_aC pd_str (q_aC pd_str q_a0)))))))) pds_nil)
   (pds_cons (q_ifS (q_tcmp (od_eq hu) (pd_var 0) pd_int) (pds_one (q_ret (q_callX h_cards (hr.mono (by decide)) (q_aC (pd_var 1) (q_aC (pd_var 2) (q_aC (pd_var 3) q_a0)))))) pds_nil)
   (pds_cons (q_ifS (q_tcmp (od_eq hu) (pd_var 0) pd_int) (pds_one (q_ret (q_callX h_found_by (hr.mono (by decide)) (q_aC (pd_var 1) (q_aC (pd_var 2) (q_aC (q_lst q_a0) (q_aC (pd_var 3) q_a0))))))) pds_nil)
   (pds_cons (q_ifS (q_tcmp (od_eq hu) (pd_var 0) pd_int) (pds_one (q_ret (q_callX h_talk (hr.mono (by decide)) (q_aC (pd_var 1) (q_aC (pd_var 2) (q_aC (pd_var 3) (q_aC (pd_var 3) q_a0))))))) pds_nil)
   (pds_cons (q_ifS (q_tcmp (od_eq hu) (pd_var 0) pd_int) (pds_one (q_ret (q_callX h_found_by_cuts (hr.mono (by decide)) (q_aC (pd_var 1) (q_aC (pd_var 2) (q_aC (pd_var 2) (q_aC (pd_var 3) (q_aC (pd_var 3) q_a0)))))))) pds_nil)
   (pds_one (q_ret (q_callL (xs := [("cut_places", _), ("stretches", _)]) (gs := [g_cut_places, g_stretches]) (fns_cons (p := _) h_cut_places (hr.mono (by decide)) (fns_cons (p := _) h_stretches (hr.mono (by decide)) fns_nil)) (by decide) (q_bin od_mod (pd_var 0) pd_int) (q_aC (pd_var 1) (q_aC (pd_var 2) (q_aC (pd_var 2) (q_aC (pd_var 3) q_a0)))))))))))))

theorem ok__law_with_size {f : Addr} {fd : FuncData} (F : Fun K "_law_with_size" "_law_with_size" (top 87) f fd) (hx : mg "_law_with_size" = some (.ref f)) (T : Txt K mg) (h_cards : FnX P w K mg base "cards" 9 3 g_cards) (h_found_by : FnX P w K mg base "found_by" 6 4 g_found_by) (h_talk : FnX P w K mg base "talk" 10 4 g_talk) (h_found_by_cuts : FnX P w K mg base "found_by_cuts" 11 5 g_found_by_cuts) (h_cut_places : FnX P w K mg base "cut_places" 9 4 g_cut_places) (h_stretches : FnX P w K mg base "stretches" 10 4 g_stretches) : FnX P w K mg base "_law_with_size" 12 4 g__law_with_size := by
 have S : FnScope ["_law_what", "_law_key", "_law_bad_here", "_law_text"] ["_law_what", "_law_key", "_law_bad_here", "_law_text"] (defScope (top 87)) := ⟨rfl, rfl, rfl, by decide +kernel, rfl, by decide +kernel, by decide +kernel⟩
 refine def_okX (m := 0) (k := 11) (Fb := F__law_with_size) F S rfl (fun _ _ _ _ _ _ us hl => match us, hl with | [_, _, _, _], _ => rfl) hx fun cdv A outer s H E G₀ hr => ?_
 have hu := hr.units
 exact (pds_cons (q_ifS (q_tcmp (od_eq hu) (pd_var 0) pd_int) (pds_one (q_ret (q_callX h_cards (hr.mono (by decide)) (q_aC (pd_var 1) (q_aC (pd_var 2) (q_aC (pd_var 3) q_a0)))))) pds_nil)
   (pds_cons (q_ifS (q_tcmp (od_eq hu) (pd_var 0) pd_int) (pds_one (q_ret (q_callX h_found_by (hr.mono (by decide)) (q_aC (pd_var 1) (q_aC (pd_var 2) (q_aC (q_lst q_a0) (q_aC (pd_var 3) q_a0))))))) pds_nil)
   (pds_cons (q_ifS (q_tcmp (od_eq hu) (pd_var 0) pd_int) (pds_one (q_ret (q_callX h_talk (hr.mono (by decide)) (q_aC (pd_var 1) (q_aC (pd_var 2) (q_aC (pd_var 3) (q_aC (pd_var 3) q_a0))))))) pds_nil)
   (pds_cons (q_ifS (q_tcmp od_lt (pd_var 0) pd_int) (pds_one (q_ret (q_callX h_found_by_cuts (hr.mono (by decide)) (q_aC (pd_var 1) (q_aC (q_ix (q_lst (q_aC (pd_var 2) (q_aC pd_int q_a0))) (q_bin od_mod (pd_var 0) pd_int)) (q_aC (q_ix (q_lst (q_aC pd_int (q_aC (pd_var 2) q_a0))) (q_bin od_mod (pd_var 0) pd_int)) (q_aC (pd_var 3) (q_aC (pd_var 3) q_a0)))))))) pds_nil)
   (pds_cons (q_ifS (q_tcmp od_lt (pd_var 0) pd_int) (pds_one (q_ret (q_callX h_cut_places (hr.mono (by decide)) (q_aC (pd_var 1) (q_aC (q_ix (q_lst (q_aC (pd_var 2) (q_aC pd_int q_a0))) (q_bin od_mod (pd_var 0) pd_int)) (q_aC (q_ix (q_lst (q_aC pd_int (q_aC (pd_var 2) q_a0))) (q_bin od_mod (pd_var 0) pd_int)) (q_aC (pd_var 3) q_a0))))))) pds_nil)
   (pds_one (q_ret (q_callX h_stretches (hr.mono (by decide)) (q_aC (pd_var 1) (q_aC (q_ix (q_lst (q_aC (pd_var 2) (q_aC pd_int q_a0))) (q_bin od_mod (pd_var 0) pd_int)) (q_aC (q_ix (q_lst (q_aC pd_int (q_aC (pd_var 2) q_a0))) (q_bin od_mod (pd_var 0) pd_int)) (q_aC (pd_var 3) q_a0))))))))))))

theorem ok_least {f : Addr} {fd : FuncData} (F : Fun K "least" "least" (top 71) f fd) (hx : mg "least" = some (.ref f)) (T : Txt K mg) (h_check_text : FnX P w K mg base "check_text" 3 1 g_check_text) : FnX P w K mg base "least" 4 2 g_least := by
 have S : FnScope ["elder", "newer"] ["elder", "newer"] (defScope (top 71)) := ⟨rfl, rfl, rfl, by decide +kernel, rfl, by decide +kernel, by decide +kernel⟩
 refine def_okX (m := 0) (k := 3) (Fb := F_least) F S rfl (fun _ _ _ _ _ _ us hl => match us, hl with | [_, _], _ => rfl) hx fun cdv A outer s H E G₀ hr => ?_
 have hu := hr.units
 exact (pds_cons (q_expr (q_callX h_check_text (hr.mono (by decide)) (q_aC (pd_var 0) q_a0)))
   (pds_cons (q_expr (q_callX h_check_text (hr.mono (by decide)) (q_aC (pd_var 1) q_a0)))
   (pds_one q_never)))

theorem ok_mended {f : Addr} {fd : FuncData} (F : Fun K "mended" "mended" (top 30) f fd) (hx : mg "mended" = some (.ref f)) (T : Txt K mg) (h_check_text : FnX P w K mg base "check_text" 3 1 g_check_text) (h_check_letter : FnX P w K mg base "check_letter" 5 1 g_check_letter) : FnX P w K mg base "mended" 6 2 g_mended := by
 have S : FnScope ["elder", "letter"] ["elder", "letter"] (defScope (top 30)) := ⟨rfl, rfl, rfl, by decide +kernel, rfl, by decide +kernel, by decide +kernel⟩
 refine def_okX (m := 0) (k := 5) (Fb := F_mended) F S rfl (fun _ _ _ _ _ _ us hl => match us, hl with | [_, _], _ => rfl) hx fun cdv A outer s H E G₀ hr => ?_
 have hu := hr.units
 exact (pds_cons (q_expr (q_callX h_check_text (hr.mono (by decide)) (q_aC (pd_var 0) q_a0)))
   (pds_cons (q_expr (q_callX h_check_letter (hr.mono (by decide)) (q_aC (pd_var 1) q_a0)))
   (pds_one q_never)))

theorem ok_back {f : Addr} {fd : FuncData} (F : Fun K "back" "back" (top 72) f fd) (hx : mg "back" = some (.ref f)) (T : Txt K mg) (h_mended : FnX P w K mg base "mended" 6 2 g_mended) : FnX P w K mg base "back" 7 2 g_back := by
 have S : FnScope ["elder", "letter"] ["elder", "letter"] (defScope (top 72)) := ⟨rfl, rfl, rfl, by decide +kernel, rfl, by decide +kernel, by decide +kernel⟩
 refine def_okX (m := 0) (k := 6) (Fb := F_back) F S rfl (fun _ _ _ _ _ _ us hl => match us, hl with | [_, _], _ => rfl) hx fun cdv A outer s H E G₀ hr => ?_
 have hu := hr.units
 exact (pds_one (q_ret (q_callN T.f_least_between (q_aC (q_callX h_mended (hr.mono (by decide)) (q_aC (pd_var 0) (q_aC (pd_var 1) q_a0))) (q_aC (pd_var 0) q_a0)))))

theorem ok__law_with_text {f : Addr} {fd : FuncData} (F : Fun K "_law_with_text" "_law_with_text" (top 88) f fd) (hx : mg "_law_with_text" = some (.ref f)) (T : Txt K mg) (h_first_sum : FnX P w K mg base "first_sum" 7 2 g_first_sum) (h_second_sum : FnX P w K mg base "second_sum" 6 2 g_second_sum) (h_whole_sum : FnX P w K mg base "whole_sum" 6 2 g_whole_sum) (h_cards : FnX P w K mg base "cards" 9 3 g_cards) (h_found_by : FnX P w K mg base "found_by" 6 4 g_found_by) (h_talk : FnX P w K mg base "talk" 10 4 g_talk) (h_least : FnX P w K mg base "least" 4 2 g_least) (h_found_by_cuts : FnX P w K mg base "found_by_cuts" 11 5 g_found_by_cuts) (h_mended : FnX P w K mg base "mended" 6 2 g_mended) (h_back : FnX P w K mg base "back" 7 2 g_back) (h_cut_places : FnX P w K mg base "cut_places" 9 4 g_cut_places) (h_stretches : FnX P w K mg base "stretches" 10 4 g_stretches) : FnX P w K mg base "_law_with_text" 12 4 g__law_with_text := by
 have S : FnScope ["_law_what", "_law_key", "_law_bad_here", "_law_letter"] ["_law_what", "_law_key", "_law_bad_here", "_law_letter"] (defScope (top 88)) := ⟨rfl, rfl, rfl, by decide +kernel, rfl, by decide +kernel, by decide +kernel⟩
 refine def_okX (m := 0) (k := 11) (Fb := F__law_with_text) F S rfl (fun _ _ _ _ _ _ us hl => match us, hl with | [_, _, _, _], _ => rfl) hx fun cdv A outer s H E G₀ hr => ?_
 have hu := hr.units
 exact (pds_cons (q_ifS (q_tcmp od_lt (pd_var 0) pd_int) (pds_one (q_ret (q_callL (xs := [("first_sum", _), ("second_sum", _), ("whole_sum", _)]) (gs := [g_first_sum, g_second_sum, g_whole_sum]) (fns_cons (p := _) h_first_sum (hr.mono (by decide)) (fns_cons (p := _) h_second_sum (hr.mono (by decide)) (fns_cons (p := _) h_whole_sum (hr.mono (by decide)) fns_nil))) (by decide) (pd_var 0) (q_aC (pd_var 1) (q_aC (pd_var 2) q_a0))))) pds_nil)
   (pds_cons (q_ifS (q_tcmp (od_eq hu) (pd_var 0) pd_int) (pds_one (q_ret (q_callX h_cards (hr.mono (by decide)) (q_aC (pd_var 1) (q_aC pd_int (q_aC (pd_var 2) q_a0)))))) pds_nil)
   (pds_cons (q_ifS (q_tcmp (od_eq hu) (pd_var 0) pd_int) (pds_one (q_ret (q_callX h_found_by (hr.mono (by decide)) (q_aC (pd_var 1) (q_aC pd_int (q_aC (q_lst q_a0) (q_aC (pd_var 2) q_a0))))))) pds_nil)
   (pds_cons (q_ifS (q_tcmp od_lt (pd_var 0) pd_int) (pds_one (q_ret (q_callX h_talk (hr.mono (by decide)) (q_aC (pd_var 1) (q_aC pd_int (q_aC (q_ix (q_lst (q_aC (pd_var 2) (q_aC pd_str q_a0))) (q_bin od_mod (pd_var 0) pd_int)) (q_aC (q_ix (q_lst (q_aC pd_str (q_aC (pd_var 2) q_a0))) (q_bin od_mod (pd_var 0) pd_int)) q_a0))))))) pds_nil)
   (pds_cons (q_ifS (q_tcmp od_lt (pd_var 0) pd_int) (pds_one (q_ret (q_callX h_least (hr.mono (by decide)) (q_aC (q_ix (q_lst (q_aC (pd_var 2) (q_aC pd_str q_a0))) (q_bin od_mod (pd_var 0) pd_int)) (q_aC (q_ix (q_lst (q_aC pd_str (q_aC (pd_var 2) q_a0))) (q_bin od_mod (pd_var 0) pd_int)) q_a0))))) pds_nil)
   (pds_cons (q_ifS (q_tcmp od_lt (pd_var 0) pd_int) (pds_one (q_ret (q_callX h_found_by_cuts (hr.mono (by decide)) (q_aC (pd_var 1) (q_aC pd_int (q_aC pd_int (q_aC (q_ix (q_lst (q_aC (pd_var 2) (q_aC pd_str q_a0))) (q_bin od_mod (pd_var 0) pd_int)) (q_aC (q_ix (q_lst (q_aC pd_str (q_aC (pd_var 2) q_a0))) (q_bin od_mod (pd_var 0) pd_int)) q_a0)))))))) pds_nil)
   (pds_cons (q_ifS (q_tcmp (od_eq hu) (pd_var 0) pd_int) (pds_one (q_ret (q_callX h_mended (hr.mono (by decide)) (q_aC (pd_var 2) (q_aC (pd_var 3) q_a0))))) pds_nil)
   (pds_cons (q_ifS (q_tcmp (od_eq hu) (pd_var 0) pd_int) (pds_one (q_ret (q_callX h_back (hr.mono (by decide)) (q_aC (pd_var 2) (q_aC (pd_var 3) q_a0))))) pds_nil)
   (pds_one (q_ret (q_callL (xs := [("cut_places", _), ("stretches", _)]) (gs := [g_cut_places, g_stretches]) (fns_cons (p := _) h_cut_places (hr.mono (by decide)) (fns_cons (p := _) h_stretches (hr.mono (by decide)) fns_nil)) (by decide) (q_bin od_mod (pd_var 0) pd_int) (q_aC (pd_var 1) (q_aC pd_int (q_aC pd_int (q_aC (pd_var 2) q_a0)))))))))))))))

theorem ok_checked {f : Addr} {fd : FuncData} (F : Fun K "checked" "checked" (top 29) f fd) (hx : mg "checked" = some (.ref f)) (T : Txt K mg) (h_check_letter : FnX P w K mg base "check_letter" 5 1 g_check_letter) : FnX P w K mg base "checked" 6 1 g_checked := by
 have S : FnScope ["letter"] ["letter"] (defScope (top 29)) := ⟨rfl, rfl, rfl, by decide +kernel, rfl, by decide +kernel, by decide +kernel⟩
 refine def_okX (m := 0) (k := 5) (Fb := F_checked) F S rfl (fun _ _ _ _ _ _ us hl => match us, hl with | [_], _ => rfl) hx fun cdv A outer s H E G₀ hr => ?_
 have hu := hr.units
 exact (pds_cons (q_expr (q_callX h_check_letter (hr.mono (by decide)) (q_aC (pd_var 0) q_a0)))
   (pds_one q_never))

theorem ok_cost {f : Addr} {fd : FuncData} (F : Fun K "cost" "cost" (top 31) f fd) (hx : mg "cost" = some (.ref f)) (T : Txt K mg) (h_check_letter : FnX P w K mg base "check_letter" 5 1 g_check_letter) : FnX P w K mg base "cost" 6 1 g_cost := by
 have S : FnScope ["letter"] ["letter"] (defScope (top 31)) := ⟨rfl, rfl, rfl, by decide +kernel, rfl, by decide +kernel, by decide +kernel⟩
 refine def_okX (m := 0) (k := 5) (Fb := F_cost) F S rfl (fun _ _ _ _ _ _ us hl => match us, hl with | [_], _ => rfl) hx fun cdv A outer s H E G₀ hr => ?_
 have hu := hr.units
 exact (pds_cons (q_expr (q_callX h_check_letter (hr.mono (by decide)) (q_aC (pd_var 0) q_a0)))
   (pds_one q_never))

theorem ok_shown {f : Addr} {fd : FuncData} (F : Fun K "shown" "shown" (top 77) f fd) (hx : mg "shown" = some (.ref f)) (T : Txt K mg) (h_check_letter : FnX P w K mg base "check_letter" 5 1 g_check_letter) : FnX P w K mg base "shown" 6 1 g_shown := by
 have S : FnScope ["letter"] ["letter"] (defScope (top 77)) := ⟨rfl, rfl, rfl, by decide +kernel, rfl, by decide +kernel, by decide +kernel⟩
 refine def_okX (m := 0) (k := 5) (Fb := F_shown) F S rfl (fun _ _ _ _ _ _ us hl => match us, hl with | [_], _ => rfl) hx fun cdv A outer s H E G₀ hr => ?_
 have hu := hr.units
 exact (pds_cons (q_expr (q_callX h_check_letter (hr.mono (by decide)) (q_aC (pd_var 0) q_a0)))
   (pds_one q_never))

theorem ok_behind {f : Addr} {fd : FuncData} (F : Fun K "behind" "behind" (top 33) f fd) (hx : mg "behind" = some (.ref f)) (T : Txt K mg) (h_check_letter : FnX P w K mg base "check_letter" 5 1 g_check_letter) : FnX P w K mg base "behind" 6 2 g_behind := by
 have S : FnScope ["one", "other", "ends", "pieces", "piece"] ["one", "other"] (defScope (top 33)) := ⟨rfl, rfl, rfl, by decide +kernel, rfl, by decide +kernel, by decide +kernel⟩
 refine def_okX (m := 3) (k := 5) (Fb := F_behind) F S rfl (fun _ _ _ _ _ _ us hl => match us, hl with | [_, _], _ => rfl) hx fun cdv A outer s H E G₀ hr => ?_
 have hu := hr.units
 exact (pds_cons (q_expr (q_callX h_check_letter (hr.mono (by decide)) (q_aC (pd_var 0) q_a0)))
   (pds_cons (q_expr (q_callX h_check_letter (hr.mono (by decide)) (q_aC (pd_var 1) q_a0)))
   (pds_cons q_never
   (pds_cons q_never
   (pds_cons q_never
   (pds_one q_never))))))

theorem ok__law_with_letter {f : Addr} {fd : FuncData} (F : Fun K "_law_with_letter" "_law_with_letter" (top 89) f fd) (hx : mg "_law_with_letter" = some (.ref f)) (T : Txt K mg) (h_checked : FnX P w K mg base "checked" 6 1 g_checked) (h_cost : FnX P w K mg base "cost" 6 1 g_cost) (h_plain : FnX P w K mg base "plain" 6 1 g_plain) (h_shown : FnX P w K mg base "shown" 6 1 g_shown) (h_mended : FnX P w K mg base "mended" 6 2 g_mended) (h_back : FnX P w K mg base "back" 7 2 g_back) (h_behind : FnX P w K mg base "behind" 6 2 g_behind) : FnX P w K mg base "_law_with_letter" 8 2 g__law_with_letter := by
 have S : FnScope ["_law_what", "_law_bad_here"] ["_law_what", "_law_bad_here"] (defScope (top 89)) := ⟨rfl, rfl, rfl, by decide +kernel, rfl, by decide +kernel, by decide +kernel⟩
 refine def_okX (m := 0) (k := 7) (Fb := F__law_with_letter) F S rfl (fun _ _ _ _ _ _ us hl => match us, hl with | [_, _], _ => rfl) hx fun cdv A outer s H E G₀ hr => ?_
 have hu := hr.units
 exact (pds_cons (q_ifS (q_tcmp od_lt (pd_var 0) pd_int) (pds_one (q_ret (q_callL (xs := [("checked", _), ("cost", _), ("plain", _), ("shown", _)]) (gs := [g_checked, g_cost, g_plain, g_shown]) (fns_cons (p := _) h_checked (hr.mono (by decide)) (fns_cons (p := _) h_cost (hr.mono (by decide)) (fns_cons (p := _) h_plain (hr.mono (by decide)) (fns_cons (p := _) h_shown (hr.mono (by decide)) fns_nil)))) (by decide) (pd_var 0) (q_aC (pd_var 1) q_a0)))) pds_nil)
   (pds_cons (q_ifS (q_tcmp od_lt (pd_var 0) pd_int) (pds_one (q_ret (q_callL (xs := [("mended", _), ("back", _)]) (gs := [g_mended, g_back]) (fns_cons (p := _) h_mended (hr.mono (by decide)) (fns_cons (p := _) h_back (hr.mono (by decide)) fns_nil)) (by decide) (q_bin od_mod (pd_var 0) pd_int) (q_aC pd_str (q_aC (pd_var 1) q_a0))))) pds_nil)
   (pds_one (q_ret (q_callX h_behind (hr.mono (by decide)) (q_aC (q_ix (q_lst (q_aC (pd_var 1) (q_aC (q_lst (q_aC (q_tup (q_aC pd_str (q_aC pd_int (q_aC pd_int q_a0)))) q_a0)) q_a0))) (q_bin od_mod (pd_var 0) pd_int)) (q_aC (q_ix (q_lst (q_aC (q_lst (q_aC (q_tup (q_aC pd_str (q_aC pd_int (q_aC pd_int q_a0)))) q_a0)) (q_aC (pd_var 1) q_a0))) (q_bin od_mod (pd_var 0) pd_int)) q_a0)))))))

theorem ok__law_case {f : Addr} {fd : FuncData} (F : Fun K "_law_case" "_law_case" (top 91) f fd) (hx : mg "_law_case" = some (.ref f)) (T : Txt K mg) (h__law_bad : Fn P w K mg base "_law_bad" 1 2 g__law_bad) (h__law_with_key : FnX P w K mg base "_law_with_key" 12 4 g__law_with_key) (h__law_with_size : FnX P w K mg base "_law_with_size" 12 4 g__law_with_size) (h__law_with_text : FnX P w K mg base "_law_with_text" 12 4 g__law_with_text) (h__law_with_letter : FnX P w K mg base "_law_with_letter" 8 2 g__law_with_letter) (h_found_by : FnX P w K mg base "found_by" 6 4 g_found_by) : FnX P w K mg base "_law_case" 13 2 g__law_case := by
 have S : FnScope ["_law_kind", "_law_cell", "_law_what", "_law_bad_here", "_law_key", "_law_other"] ["_law_kind", "_law_cell"] (defScope (top 91)) := ⟨rfl, rfl, rfl, by decide +kernel, rfl, by decide +kernel, by decide +kernel⟩
 refine def_okX (m := 4) (k := 12) (Fb := F__law_case) F S rfl (fun _ _ _ _ _ _ us hl => match us, hl with | [_, _], _ => rfl) hx fun cdv A outer s H E G₀ hr => ?_
 have hu := hr.units
 exact (pds_cons (q_set 2 S.nd (q_bin od_fdiv (pd_var 1) pd_int))
   (pds_cons (q_set 3 S.nd (q_call h__law_bad (hr.mono (by decide)) (q_aC (pd_var 0) (q_aC (pd_var 1) q_a0))))
   (pds_cons (q_set 4 S.nd (q_tup (q_aC pd_int (q_aC pd_int (q_aC pd_int q_a0)))))
   (pds_cons (q_set 5 S.nd (q_ix (q_ix (q_lst (q_aC (q_lst (q_aC pd_str (q_aC pd_non q_a0))) (q_aC (q_lst (q_aC pd_int (q_aC pd_non q_a0))) q_a0))) (q_ty cd_int T.b_int (by rfl) (q_aC (q_cmp (od_eq hu) (pd_var 0) pd_int) q_a0))) (q_bin od_mod (q_bin od_fdiv (pd_var 1) pd_int) pd_int)))
   (pds_cons (q_ifS (q_tcmp (od_eq hu) (pd_var 0) pd_int) (pds_one (q_ret (q_callX h__law_with_key (hr.mono (by decide)) (q_aC (q_bin od_mod (pd_var 2) pd_int) (q_aC (pd_var 3) (q_aC (pd_var 5) (q_aC (q_ix (q_lst (q_aC pd_non (q_aC pd_str q_a0))) (q_ty cd_int T.b_int (by rfl) (q_aC (q_cmp (od_eq hu) (pd_var 5) pd_int) q_a0))) q_a0))))))) pds_nil)
   (pds_cons (q_ifS (q_tcmp (od_eq hu) (pd_var 0) pd_int) (pds_one (q_ret (q_callX h__law_with_size (hr.mono (by decide)) (q_aC (q_bin od_mod (pd_var 2) pd_int) (q_aC (pd_var 4) (q_aC (pd_var 3) (q_aC (pd_var 5) q_a0))))))) pds_nil)
   (pds_cons (q_ifS (q_tcmp (od_eq hu) (pd_var 0) pd_int) (pds_one (q_ret (q_callX h__law_with_text (hr.mono (by decide)) (q_aC (q_bin od_mod (pd_var 2) pd_int) (q_aC (pd_var 4) (q_aC (pd_var 3) (q_aC (q_ix (q_lst (q_aC (q_lst q_a0) (q_aC pd_non q_a0))) (q_bin od_mod (q_bin od_fdiv (pd_var 1) pd_int) pd_int)) q_a0))))))) pds_nil)
   (pds_cons (q_ifS (q_tcmp (od_eq hu) (pd_var 0) pd_int) (pds_one (q_ret (q_callX h__law_with_letter (hr.mono (by decide)) (q_aC (q_bin od_mod (pd_var 2) pd_int) (q_aC (pd_var 3) q_a0))))) pds_nil)
   (pds_one (q_ret (q_callX h_found_by (hr.mono (by decide)) (q_aC (pd_var 4) (q_aC pd_int (q_aC (pd_var 3) (q_aC (pd_var 5) q_a0)))))))))))))))

theorem ok_law {f : Addr} {fd : FuncData} (F : Fun K "law" "law" (top 92) f fd) (T : Txt K mg) (h__law_mixed : Fn P w K mg base "_law_mixed" 2 3 g__law_mixed) (h__law_case : FnX P w K mg base "_law_case" 13 2 g__law_case) : FnOk P w K mg base CX0 14 f fd ["_law_script"] (spD K g_law 1) := by
 have S : FnScope ["_law_script", "_law_kind", "e", "_law_own"] ["_law_script"] (defScope (top 92)) := ⟨rfl, rfl, rfl, by decide +kernel, rfl, by decide +kernel, by decide +kernel⟩
 refine def_fn (m := 3) (k := 13) (Fb := F_law) F S rfl fun cdv A outer s H E G₀ hr => ?_
 have hu := hr.units
 exact (pds_cons (q_set 1 S.nd (q_call h__law_mixed (hr.mono (by decide)) (q_aC (pd_var 0) (q_aC pd_int (q_aC pd_int q_a0)))))
   (pds_cons (q_try (cs := ["NoCards", "NoKey", "NoLetter", "NoSigns", "NoSize"]) 2 S.nd T.m_NoCards_NoKey_NoLetter_NoSigns_NoSize_MendError (fun pn E => (pds_one (q_expr (q_callX h__law_case (hr.mono (by decide)) (q_aC (pd_var 1) (q_aC (q_call h__law_mixed (hr.mono (by decide)) (q_aC (pd_var 0) (q_aC pd_int (q_aC (q_bin od_pow pd_int pd_int) q_a0)))) q_a0)))))) (fun e => (pds_cons (q_own 3 S.nd (q_aC (q_isz (tb := [("NoCards", false), ("NoKey", true), ("NoLetter", false), ("NoSigns", false), ("NoSize", false)]) T.z_NoCards_NoKey_NoLetter_NoSigns_NoSize_NoKey T.b_isinstance (pd_var 2)) (q_aC (q_isz (tb := [("NoCards", false), ("NoKey", false), ("NoLetter", false), ("NoSigns", false), ("NoSize", true)]) T.z_NoCards_NoKey_NoLetter_NoSigns_NoSize_NoSize T.b_isinstance (pd_var 2)) (q_aC (q_isz (tb := [("NoCards", false), ("NoKey", false), ("NoLetter", false), ("NoSigns", true), ("NoSize", false)]) T.z_NoCards_NoKey_NoLetter_NoSigns_NoSize_NoSigns T.b_isinstance (pd_var 2)) (q_aC (q_isz (tb := [("NoCards", false), ("NoKey", false), ("NoLetter", true), ("NoSigns", false), ("NoSize", false)]) T.z_NoCards_NoKey_NoLetter_NoSigns_NoSize_NoLetter T.b_isinstance (pd_var 2)) q_a0)))))
   (pds_cons (q_mut 3 ext_ne PySem.F.slot_list_extend PySem.F.type_list_extend mt_extS mut_extend (q_aC (q_lst (q_aC (q_isz (tb := [("NoCards", true), ("NoKey", false), ("NoLetter", false), ("NoSigns", false), ("NoSize", false)]) T.z_NoCards_NoKey_NoLetter_NoSigns_NoSize_NoCards T.b_isinstance (pd_var 2)) (q_aC (q_isz (tb := [("NoCards", false), ("NoKey", false), ("NoLetter", false), ("NoSigns", false), ("NoSize", false)]) T.z_NoCards_NoKey_NoLetter_NoSigns_NoSize_Beyond T.b_isinstance (pd_var 2)) (q_aC (q_isz (tb := [("NoCards", false), ("NoKey", false), ("NoLetter", false), ("NoSigns", false), ("NoSize", false)]) T.z_NoCards_NoKey_NoLetter_NoSigns_NoSize_NoLines T.b_isinstance (pd_var 2)) q_a0)))) q_a0))
   (pds_one (q_share (q_ret (q_and (q_isxT (cs := ["NoCards", "NoKey", "NoLetter", "NoSigns", "NoSize"]) T.i_NoCards_NoKey_NoLetter_NoSigns_NoSize_ValueError T.b_isinstance T.b_ValueError (by rfl) (pd_var 2)) (q_and (q_cmp (od_eq hu) (q_cnt (pd_var 3) (q_aC pd_bl q_a0)) pd_int) (pd_one (q_cmp (od_eq hu) (q_ixb (pd_var 3) (q_aC pd_bl q_a0)) (pd_var 1))))))))))))
   (pds_one q_never)))

end
end A

set_option Elab.async false
namespace A
open PySem PySem.Spec PyProof.Rows L2 M
theorem all_mk {l : PySem.W.OpenLaw} {w : World} {K : PySem.W.Frag} {h : Heap} {mg : Str → Option Value} {fa f1 f2 f3 f4 f5 f6 f7 f8 f9 f10 f11 f12 f13 f14 f15 f16 f17 f18 f19 f20 f21 f22 f23 f24 f25 f26 f27 f28 f29 f30 f31 f32 f33 f34 f35 f36 f37 f38 f39 f40 f41 f42 f43 f44 f45 f46 C_NoKey C_NoSigns C_NoLetter C_NoSize C_NoCards C_NoLines C_Beyond C_MendError F_least_between : Addr} (X : K.In h) (G : h.Ns mainGlobals mg) (hfa : mg "law" = some (.ref fa))
  {od1 an1 od2 an2 od3 an3 od4 an4 od5 an5 od6 an6 od7 an7 od8 an8 od9 an9 od10 an10 od11 an11 od12 an12 od13 an13 od14 an14 od15 an15 od16 an16 od17 an17 od18 an18 od19 an19 od20 an20 od21 an21 od22 an22 od23 an23 od24 an24 od25 an25 od26 an26 od27 an27 od28 an28 od29 an29 od30 an30 od31 an31 od32 an32 od33 an33 od34 an34 od35 an35 od36 an36 od37 an37 od38 an38 od39 an39 od40 an40 od41 an41 od42 an42 od43 an43 od44 an44 od45 an45 od46 an46 : Option Addr} {sl1 sl2 sl3 sl4 sl5 sl6 sl7 sl8 sl9 sl10 sl11 sl12 sl13 sl14 sl15 sl16 sl17 sl18 sl19 sl20 sl21 sl22 sl23 sl24 sl25 sl26 sl27 sl28 sl29 sl30 sl31 sl32 sl33 sl34 sl35 sl36 sl37 sl38 sl39 sl40 sl41 sl42 sl43 sl44 sl45 sl46 : Array (Option Value)} {oc1 kV1 dc1 pm1 cd1 ct1 oc2 kV2 dc2 pm2 cd2 ct2 oc3 kV3 dc3 pm3 cd3 ct3 oc4 kV4 dc4 pm4 cd4 ct4 oc5 kV5 dc5 pm5 cd5 ct5 oc6 kV6 dc6 pm6 cd6 ct6 oc7 kV7 dc7 pm7 cd7 ct7 oc8 kV8 dc8 pm8 cd8 ct8 oc9 kV9 dc9 pm9 cd9 ct9 oc10 kV10 dc10 pm10 cd10 ct10 oc11 kV11 dc11 pm11 cd11 ct11 oc12 kV12 dc12 pm12 cd12 ct12 oc13 kV13 dc13 pm13 cd13 ct13 oc14 kV14 dc14 pm14 cd14 ct14 oc15 kV15 dc15 pm15 cd15 ct15 oc16 kV16 dc16 pm16 cd16 ct16 oc17 kV17 dc17 pm17 cd17 ct17 oc18 kV18 dc18 pm18 cd18 ct18 oc19 kV19 dc19 pm19 cd19 ct19 oc20 kV20 dc20 pm20 cd20 ct20 oc21 kV21 dc21 pm21 cd21 ct21 oc22 kV22 dc22 pm22 cd22 ct22 oc23 kV23 dc23 pm23 cd23 ct23 oc24 kV24 dc24 pm24 cd24 ct24 oc25 kV25 dc25 pm25 cd25 ct25 oc26 kV26 dc26 pm26 cd26 ct26 oc27 kV27 dc27 pm27 cd27 ct27 oc28 kV28 dc28 pm28 cd28 ct28 oc29 kV29 dc29 pm29 cd29 ct29 oc30 kV30 dc30 pm30 cd30 ct30 oc31 kV31 dc31 pm31 cd31 ct31 oc32 kV32 dc32 pm32 cd32 ct32 oc33 kV33 dc33 pm33 cd33 ct33 oc34 kV34 dc34 pm34 cd34 ct34 oc35 kV35 dc35 pm35 cd35 ct35 oc36 kV36 dc36 pm36 cd36 ct36 oc37 kV37 dc37 pm37 cd37 ct37 oc38 kV38 dc38 pm38 cd38 ct38 oc39 kV39 dc39 pm39 cd39 ct39 oc40 kV40 dc40 pm40 cd40 ct40 oc41 kV41 dc41 pm41 cd41 ct41 oc42 kV42 dc42 pm42 cd42 ct42 oc43 kV43 dc43 pm43 cd43 ct43 oc44 kV44 dc44 pm44 cd44 ct44 oc45 kV45 dc45 pm45 cd45 ct45 oc46 kV46 dc46 pm46 cd46 ct46 : Value} {tc0 : Tok} {tc1 : Tok} {tc2 : Tok} {tc3 : Tok} {tc4 : Tok} {tc5 : Tok} {tc6 : Tok} {tc7 : Tok} {tc8 : Tok}
  (a1 : PySem.W.nsIn K mainGlobals "_law_cell_at" = some (some (.ref f1))) (l1 : K.lookup f1 = some ⟨oc1, od1, .func (PySem.W.fnOf "_law_cell_at" "_law_cell_at" (defArgs (top 84)) (defBody (top 84)) (defScope (top 84)) .none kV1 dc1 pm1 an1 cd1 ct1), sl1⟩) (c1 : PySem.W.codeIn K cd1 "_law_cell_at" = true) (k1 : PySem.W.keepIn K (.ref f1) = true)
  (a2 : PySem.W.nsIn K mainGlobals "_law_mixed" = some (some (.ref f2))) (l2 : K.lookup f2 = some ⟨oc2, od2, .func (PySem.W.fnOf "_law_mixed" "_law_mixed" (defArgs (top 85)) (defBody (top 85)) (defScope (top 85)) .none kV2 dc2 pm2 an2 cd2 ct2), sl2⟩) (c2 : PySem.W.codeIn K cd2 "_law_mixed" = true) (k2 : PySem.W.keepIn K (.ref f2) = true)
  (a3 : PySem.W.nsIn K mainGlobals "_law_bad" = some (some (.ref f3))) (l3 : K.lookup f3 = some ⟨oc3, od3, .func (PySem.W.fnOf "_law_bad" "_law_bad" (defArgs (top 90)) (defBody (top 90)) (defScope (top 90)) .none kV3 dc3 pm3 an3 cd3 ct3), sl3⟩) (c3 : PySem.W.codeIn K cd3 "_law_bad" = true) (k3 : PySem.W.keepIn K (.ref f3) = true)
  (a4 : PySem.W.nsIn K mainGlobals "is_whole" = some (some (.ref f4))) (l4 : K.lookup f4 = some ⟨oc4, od4, .func (PySem.W.fnOf "is_whole" "is_whole" (defArgs (top 18)) (defBody (top 18)) (defScope (top 18)) .none kV4 dc4 pm4 an4 cd4 ct4), sl4⟩) (c4 : PySem.W.codeIn K cd4 "is_whole" = true) (k4 : PySem.W.keepIn K (.ref f4) = true)
  (a5 : PySem.W.nsIn K mainGlobals "is_from" = some (some (.ref f5))) (l5 : K.lookup f5 = some ⟨oc5, od5, .func (PySem.W.fnOf "is_from" "is_from" (defArgs (top 19)) (defBody (top 19)) (defScope (top 19)) .none kV5 dc5 pm5 an5 cd5 ct5), sl5⟩) (c5 : PySem.W.codeIn K cd5 "is_from" = true) (k5 : PySem.W.keepIn K (.ref f5) = true)
  (a6 : PySem.W.nsIn K mainGlobals "is_within" = some (some (.ref f6))) (l6 : K.lookup f6 = some ⟨oc6, od6, .func (PySem.W.fnOf "is_within" "is_within" (defArgs (top 20)) (defBody (top 20)) (defScope (top 20)) .none kV6 dc6 pm6 an6 cd6 ct6), sl6⟩) (c6 : PySem.W.codeIn K cd6 "is_within" = true) (k6 : PySem.W.keepIn K (.ref f6) = true)
  (a7 : PySem.W.nsIn K mainGlobals "is_key" = some (some (.ref f7))) (l7 : K.lookup f7 = some ⟨oc7, od7, .func (PySem.W.fnOf "is_key" "is_key" (defArgs (top 23)) (defBody (top 23)) (defScope (top 23)) .none kV7 dc7 pm7 an7 cd7 ct7), sl7⟩) (c7 : PySem.W.codeIn K cd7 "is_key" = true) (k7 : PySem.W.keepIn K (.ref f7) = true)
  (a8 : PySem.W.nsIn K mainGlobals "check_key" = some (some (.ref f8))) (l8 : K.lookup f8 = some ⟨oc8, od8, .func (PySem.W.fnOf "check_key" "check_key" (defArgs (top 25)) (defBody (top 25)) (defScope (top 25)) .none kV8 dc8 pm8 an8 cd8 ct8), sl8⟩) (c8 : PySem.W.codeIn K cd8 "check_key" = true) (k8 : PySem.W.keepIn K (.ref f8) = true)
  (a9 : PySem.W.nsIn K mainGlobals "is_sign" = some (some (.ref f9))) (l9 : K.lookup f9 = some ⟨oc9, od9, .func (PySem.W.fnOf "is_sign" "is_sign" (defArgs (top 21)) (defBody (top 21)) (defScope (top 21)) .none kV9 dc9 pm9 an9 cd9 ct9), sl9⟩) (c9 : PySem.W.codeIn K cd9 "is_sign" = true) (k9 : PySem.W.keepIn K (.ref f9) = true)
  (a10 : PySem.W.nsIn K mainGlobals "is_text" = some (some (.ref f10))) (l10 : K.lookup f10 = some ⟨oc10, od10, .func (PySem.W.fnOf "is_text" "is_text" (defArgs (top 22)) (defBody (top 22)) (defScope (top 22)) .none kV10 dc10 pm10 an10 cd10 ct10), sl10⟩) (c10 : PySem.W.codeIn K cd10 "is_text" = true) (k10 : PySem.W.keepIn K (.ref f10) = true)
  (a11 : PySem.W.nsIn K mainGlobals "check_text" = some (some (.ref f11))) (l11 : K.lookup f11 = some ⟨oc11, od11, .func (PySem.W.fnOf "check_text" "check_text" (defArgs (top 24)) (defBody (top 24)) (defScope (top 24)) .none kV11 dc11 pm11 an11 cd11 ct11), sl11⟩) (c11 : PySem.W.codeIn K cd11 "check_text" = true) (k11 : PySem.W.keepIn K (.ref f11) = true)
  (a12 : PySem.W.nsIn K mainGlobals "is_copy" = some (some (.ref f12))) (l12 : K.lookup f12 = some ⟨oc12, od12, .func (PySem.W.fnOf "is_copy" "is_copy" (defArgs (top 37)) (defBody (top 37)) (defScope (top 37)) .none kV12 dc12 pm12 an12 cd12 ct12), sl12⟩) (c12 : PySem.W.codeIn K cd12 "is_copy" = true) (k12 : PySem.W.keepIn K (.ref f12) = true)
  (a13 : PySem.W.nsIn K mainGlobals "is_piece" = some (some (.ref f13))) (l13 : K.lookup f13 = some ⟨oc13, od13, .func (PySem.W.fnOf "is_piece" "is_piece" (defArgs (top 36)) (defBody (top 36)) (defScope (top 36)) .none kV13 dc13 pm13 an13 cd13 ct13), sl13⟩) (c13 : PySem.W.codeIn K cd13 "is_piece" = true) (k13 : PySem.W.keepIn K (.ref f13) = true)
  (a14 : PySem.W.nsIn K mainGlobals "is_letter" = some (some (.ref f14))) (l14 : K.lookup f14 = some ⟨oc14, od14, .func (PySem.W.fnOf "is_letter" "is_letter" (defArgs (top 35)) (defBody (top 35)) (defScope (top 35)) .none kV14 dc14 pm14 an14 cd14 ct14), sl14⟩) (c14 : PySem.W.codeIn K cd14 "is_letter" = true) (k14 : PySem.W.keepIn K (.ref f14) = true)
  (a15 : PySem.W.nsIn K mainGlobals "check_letter" = some (some (.ref f15))) (l15 : K.lookup f15 = some ⟨oc15, od15, .func (PySem.W.fnOf "check_letter" "check_letter" (defArgs (top 34)) (defBody (top 34)) (defScope (top 34)) .none kV15 dc15 pm15 an15 cd15 ct15), sl15⟩) (c15 : PySem.W.codeIn K cd15 "check_letter" = true) (k15 : PySem.W.keepIn K (.ref f15) = true)
  (a16 : PySem.W.nsIn K mainGlobals "plain" = some (some (.ref f16))) (l16 : K.lookup f16 = some ⟨oc16, od16, .func (PySem.W.fnOf "plain" "plain" (defArgs (top 32)) (defBody (top 32)) (defScope (top 32)) .none kV16 dc16 pm16 an16 cd16 ct16), sl16⟩) (c16 : PySem.W.codeIn K cd16 "plain" = true) (k16 : PySem.W.keepIn K (.ref f16) = true)
  (a17 : PySem.W.nsIn K mainGlobals "first_sum" = some (some (.ref f17))) (l17 : K.lookup f17 = some ⟨oc17, od17, .func (PySem.W.fnOf "first_sum" "first_sum" (defArgs (top 50)) (defBody (top 50)) (defScope (top 50)) .none kV17 dc17 pm17 an17 cd17 ct17), sl17⟩) (c17 : PySem.W.codeIn K cd17 "first_sum" = true) (k17 : PySem.W.keepIn K (.ref f17) = true)
  (a18 : PySem.W.nsIn K mainGlobals "chained" = some (some (.ref f18))) (l18 : K.lookup f18 = some ⟨oc18, od18, .func (PySem.W.fnOf "chained" "chained" (defArgs (top 55)) (defBody (top 55)) (defScope (top 55)) .none kV18 dc18 pm18 an18 cd18 ct18), sl18⟩) (c18 : PySem.W.codeIn K cd18 "chained" = true) (k18 : PySem.W.keepIn K (.ref f18) = true)
  (a19 : PySem.W.nsIn K mainGlobals "second_sum" = some (some (.ref f19))) (l19 : K.lookup f19 = some ⟨oc19, od19, .func (PySem.W.fnOf "second_sum" "second_sum" (defArgs (top 53)) (defBody (top 53)) (defScope (top 53)) .none kV19 dc19 pm19 an19 cd19 ct19), sl19⟩) (c19 : PySem.W.codeIn K cd19 "second_sum" = true) (k19 : PySem.W.keepIn K (.ref f19) = true)
  (a20 : PySem.W.nsIn K mainGlobals "whole_sum" = some (some (.ref f20))) (l20 : K.lookup f20 = some ⟨oc20, od20, .func (PySem.W.fnOf "whole_sum" "whole_sum" (defArgs (top 54)) (defBody (top 54)) (defScope (top 54)) .none kV20 dc20 pm20 an20 cd20 ct20), sl20⟩) (c20 : PySem.W.codeIn K cd20 "whole_sum" = true) (k20 : PySem.W.keepIn K (.ref f20) = true)
  (a21 : PySem.W.nsIn K mainGlobals "rolled" = some (some (.ref f21))) (l21 : K.lookup f21 = some ⟨oc21, od21, .func (PySem.W.fnOf "rolled" "rolled" (defArgs (top 51)) (defBody (top 51)) (defScope (top 51)) .none kV21 dc21 pm21 an21 cd21 ct21), sl21⟩) (c21 : PySem.W.codeIn K cd21 "rolled" = true) (k21 : PySem.W.keepIn K (.ref f21) = true)
  (a22 : PySem.W.nsIn K mainGlobals "check_size" = some (some (.ref f22))) (l22 : K.lookup f22 = some ⟨oc22, od22, .func (PySem.W.fnOf "check_size" "check_size" (defArgs (top 26)) (defBody (top 26)) (defScope (top 26)) .none kV22 dc22 pm22 an22 cd22 ct22), sl22⟩) (c22 : PySem.W.codeIn K cd22 "check_size" = true) (k22 : PySem.W.keepIn K (.ref f22) = true)
  (a23 : PySem.W.nsIn K mainGlobals "card_of" = some (some (.ref f23))) (l23 : K.lookup f23 = some ⟨oc23, od23, .func (PySem.W.fnOf "card_of" "card_of" (defArgs (top 59)) (defBody (top 59)) (defScope (top 59)) .none kV23 dc23 pm23 an23 cd23 ct23), sl23⟩) (c23 : PySem.W.codeIn K cd23 "card_of" = true) (k23 : PySem.W.keepIn K (.ref f23) = true)
  (a24 : PySem.W.nsIn K mainGlobals "cards" = some (some (.ref f24))) (l24 : K.lookup f24 = some ⟨oc24, od24, .func (PySem.W.fnOf "cards" "cards" (defArgs (top 57)) (defBody (top 57)) (defScope (top 57)) .none kV24 dc24 pm24 an24 cd24 ct24), sl24⟩) (c24 : PySem.W.codeIn K cd24 "cards" = true) (k24 : PySem.W.keepIn K (.ref f24) = true)
  (a25 : PySem.W.nsIn K mainGlobals "is_card" = some (some (.ref f25))) (l25 : K.lookup f25 = some ⟨oc25, od25, .func (PySem.W.fnOf "is_card" "is_card" (defArgs (top 61)) (defBody (top 61)) (defScope (top 61)) .none kV25 dc25 pm25 an25 cd25 ct25), sl25⟩) (c25 : PySem.W.codeIn K cd25 "is_card" = true) (k25 : PySem.W.keepIn K (.ref f25) = true)
  (a26 : PySem.W.nsIn K mainGlobals "check_cards" = some (some (.ref f26))) (l26 : K.lookup f26 = some ⟨oc26, od26, .func (PySem.W.fnOf "check_cards" "check_cards" (defArgs (top 60)) (defBody (top 60)) (defScope (top 60)) .none kV26 dc26 pm26 an26 cd26 ct26), sl26⟩) (c26 : PySem.W.codeIn K cd26 "check_cards" = true) (k26 : PySem.W.keepIn K (.ref f26) = true)
  (a27 : PySem.W.nsIn K mainGlobals "found_by" = some (some (.ref f27))) (l27 : K.lookup f27 = some ⟨oc27, od27, .func (PySem.W.fnOf "found_by" "found_by" (defArgs (top 58)) (defBody (top 58)) (defScope (top 58)) .none kV27 dc27 pm27 an27 cd27 ct27), sl27⟩) (c27 : PySem.W.codeIn K cd27 "found_by" = true) (k27 : PySem.W.keepIn K (.ref f27) = true)
  (a28 : PySem.W.nsIn K mainGlobals "talk" = some (some (.ref f28))) (l28 : K.lookup f28 = some ⟨oc28, od28, .func (PySem.W.fnOf "talk" "talk" (defArgs (top 81)) (defBody (top 81)) (defScope (top 81)) .none kV28 dc28 pm28 an28 cd28 ct28), sl28⟩) (c28 : PySem.W.codeIn K cd28 "talk" = true) (k28 : PySem.W.keepIn K (.ref f28) = true)
  (a29 : PySem.W.nsIn K mainGlobals "first_places" = some (some (.ref f29))) (l29 : K.lookup f29 = some ⟨oc29, od29, .func (PySem.W.fnOf "first_places" "first_places" (defArgs (top 68)) (defBody (top 68)) (defScope (top 68)) .none kV29 dc29 pm29 an29 cd29 ct29), sl29⟩) (c29 : PySem.W.codeIn K cd29 "first_places" = true) (k29 : PySem.W.keepIn K (.ref f29) = true)
  (a30 : PySem.W.nsIn K mainGlobals "rolled_sums" = some (some (.ref f30))) (l30 : K.lookup f30 = some ⟨oc30, od30, .func (PySem.W.fnOf "rolled_sums" "rolled_sums" (defArgs (top 52)) (defBody (top 52)) (defScope (top 52)) .none kV30 dc30 pm30 an30 cd30 ct30), sl30⟩) (c30 : PySem.W.codeIn K cd30 "rolled_sums" = true) (k30 : PySem.W.keepIn K (.ref f30) = true)
  (a31 : PySem.W.nsIn K mainGlobals "cut_places" = some (some (.ref f31))) (l31 : K.lookup f31 = some ⟨oc31, od31, .func (PySem.W.fnOf "cut_places" "cut_places" (defArgs (top 65)) (defBody (top 65)) (defScope (top 65)) .none kV31 dc31 pm31 an31 cd31 ct31), sl31⟩) (c31 : PySem.W.codeIn K cd31 "cut_places" = true) (k31 : PySem.W.keepIn K (.ref f31) = true)
  (a32 : PySem.W.nsIn K mainGlobals "stretches" = some (some (.ref f32))) (l32 : K.lookup f32 = some ⟨oc32, od32, .func (PySem.W.fnOf "stretches" "stretches" (defArgs (top 66)) (defBody (top 66)) (defScope (top 66)) .none kV32 dc32 pm32 an32 cd32 ct32), sl32⟩) (c32 : PySem.W.codeIn K cd32 "stretches" = true) (k32 : PySem.W.keepIn K (.ref f32) = true)
  (a33 : PySem.W.nsIn K mainGlobals "found_by_cuts" = some (some (.ref f33))) (l33 : K.lookup f33 = some ⟨oc33, od33, .func (PySem.W.fnOf "found_by_cuts" "found_by_cuts" (defArgs (top 67)) (defBody (top 67)) (defScope (top 67)) .none kV33 dc33 pm33 an33 cd33 ct33), sl33⟩) (c33 : PySem.W.codeIn K cd33 "found_by_cuts" = true) (k33 : PySem.W.keepIn K (.ref f33) = true)
  (a34 : PySem.W.nsIn K mainGlobals "_law_with_key" = some (some (.ref f34))) (l34 : K.lookup f34 = some ⟨oc34, od34, .func (PySem.W.fnOf "_law_with_key" "_law_with_key" (defArgs (top 86)) (defBody (top 86)) (defScope (top 86)) .none kV34 dc34 pm34 an34 cd34 ct34), sl34⟩) (c34 : PySem.W.codeIn K cd34 "_law_with_key" = true) (k34 : PySem.W.keepIn K (.ref f34) = true)
  (a35 : PySem.W.nsIn K mainGlobals "_law_with_size" = some (some (.ref f35))) (l35 : K.lookup f35 = some ⟨oc35, od35, .func (PySem.W.fnOf "_law_with_size" "_law_with_size" (defArgs (top 87)) (defBody (top 87)) (defScope (top 87)) .none kV35 dc35 pm35 an35 cd35 ct35), sl35⟩) (c35 : PySem.W.codeIn K cd35 "_law_with_size" = true) (k35 : PySem.W.keepIn K (.ref f35) = true)
  (a36 : PySem.W.nsIn K mainGlobals "least" = some (some (.ref f36))) (l36 : K.lookup f36 = some ⟨oc36, od36, .func (PySem.W.fnOf "least" "least" (defArgs (top 71)) (defBody (top 71)) (defScope (top 71)) .none kV36 dc36 pm36 an36 cd36 ct36), sl36⟩) (c36 : PySem.W.codeIn K cd36 "least" = true) (k36 : PySem.W.keepIn K (.ref f36) = true)
  (a37 : PySem.W.nsIn K mainGlobals "mended" = some (some (.ref f37))) (l37 : K.lookup f37 = some ⟨oc37, od37, .func (PySem.W.fnOf "mended" "mended" (defArgs (top 30)) (defBody (top 30)) (defScope (top 30)) .none kV37 dc37 pm37 an37 cd37 ct37), sl37⟩) (c37 : PySem.W.codeIn K cd37 "mended" = true) (k37 : PySem.W.keepIn K (.ref f37) = true)
  (a38 : PySem.W.nsIn K mainGlobals "back" = some (some (.ref f38))) (l38 : K.lookup f38 = some ⟨oc38, od38, .func (PySem.W.fnOf "back" "back" (defArgs (top 72)) (defBody (top 72)) (defScope (top 72)) .none kV38 dc38 pm38 an38 cd38 ct38), sl38⟩) (c38 : PySem.W.codeIn K cd38 "back" = true) (k38 : PySem.W.keepIn K (.ref f38) = true)
  (a39 : PySem.W.nsIn K mainGlobals "_law_with_text" = some (some (.ref f39))) (l39 : K.lookup f39 = some ⟨oc39, od39, .func (PySem.W.fnOf "_law_with_text" "_law_with_text" (defArgs (top 88)) (defBody (top 88)) (defScope (top 88)) .none kV39 dc39 pm39 an39 cd39 ct39), sl39⟩) (c39 : PySem.W.codeIn K cd39 "_law_with_text" = true) (k39 : PySem.W.keepIn K (.ref f39) = true)
  (a40 : PySem.W.nsIn K mainGlobals "checked" = some (some (.ref f40))) (l40 : K.lookup f40 = some ⟨oc40, od40, .func (PySem.W.fnOf "checked" "checked" (defArgs (top 29)) (defBody (top 29)) (defScope (top 29)) .none kV40 dc40 pm40 an40 cd40 ct40), sl40⟩) (c40 : PySem.W.codeIn K cd40 "checked" = true) (k40 : PySem.W.keepIn K (.ref f40) = true)
  (a41 : PySem.W.nsIn K mainGlobals "cost" = some (some (.ref f41))) (l41 : K.lookup f41 = some ⟨oc41, od41, .func (PySem.W.fnOf "cost" "cost" (defArgs (top 31)) (defBody (top 31)) (defScope (top 31)) .none kV41 dc41 pm41 an41 cd41 ct41), sl41⟩) (c41 : PySem.W.codeIn K cd41 "cost" = true) (k41 : PySem.W.keepIn K (.ref f41) = true)
  (a42 : PySem.W.nsIn K mainGlobals "shown" = some (some (.ref f42))) (l42 : K.lookup f42 = some ⟨oc42, od42, .func (PySem.W.fnOf "shown" "shown" (defArgs (top 77)) (defBody (top 77)) (defScope (top 77)) .none kV42 dc42 pm42 an42 cd42 ct42), sl42⟩) (c42 : PySem.W.codeIn K cd42 "shown" = true) (k42 : PySem.W.keepIn K (.ref f42) = true)
  (a43 : PySem.W.nsIn K mainGlobals "behind" = some (some (.ref f43))) (l43 : K.lookup f43 = some ⟨oc43, od43, .func (PySem.W.fnOf "behind" "behind" (defArgs (top 33)) (defBody (top 33)) (defScope (top 33)) .none kV43 dc43 pm43 an43 cd43 ct43), sl43⟩) (c43 : PySem.W.codeIn K cd43 "behind" = true) (k43 : PySem.W.keepIn K (.ref f43) = true)
  (a44 : PySem.W.nsIn K mainGlobals "_law_with_letter" = some (some (.ref f44))) (l44 : K.lookup f44 = some ⟨oc44, od44, .func (PySem.W.fnOf "_law_with_letter" "_law_with_letter" (defArgs (top 89)) (defBody (top 89)) (defScope (top 89)) .none kV44 dc44 pm44 an44 cd44 ct44), sl44⟩) (c44 : PySem.W.codeIn K cd44 "_law_with_letter" = true) (k44 : PySem.W.keepIn K (.ref f44) = true)
  (a45 : PySem.W.nsIn K mainGlobals "_law_case" = some (some (.ref f45))) (l45 : K.lookup f45 = some ⟨oc45, od45, .func (PySem.W.fnOf "_law_case" "_law_case" (defArgs (top 91)) (defBody (top 91)) (defScope (top 91)) .none kV45 dc45 pm45 an45 cd45 ct45), sl45⟩) (c45 : PySem.W.codeIn K cd45 "_law_case" = true) (k45 : PySem.W.keepIn K (.ref f45) = true)
  (a46 : PySem.W.nsIn K mainGlobals "law" = some (some (.ref f46))) (l46 : K.lookup f46 = some ⟨oc46, od46, .func (PySem.W.fnOf "law" "law" (defArgs (top 92)) (defBody (top 92)) (defScope (top 92)) .none kV46 dc46 pm46 an46 cd46 ct46), sl46⟩) (c46 : PySem.W.codeIn K cd46 "law" = true) (k46 : PySem.W.keepIn K (.ref f46) = true)
  (zb0 : PySem.W.nsIn K mainGlobals "len" = some none)
  (zb1 : PySem.W.nsIn K mainGlobals "min" = some none)
  (zb2 : PySem.W.nsIn K mainGlobals "isinstance" = some none)
  (zb3 : PySem.W.nsIn K mainGlobals "int" = some none)
  (zb4 : PySem.W.nsIn K mainGlobals "bool" = some none)
  (zb5 : PySem.W.nsIn K mainGlobals "tuple" = some none)
  (zb6 : PySem.W.nsIn K mainGlobals "ord" = some none)
  (zb7 : PySem.W.nsIn K mainGlobals "str" = some none)
  (zb8 : PySem.W.nsIn K mainGlobals "all" = some none)
  (zb9 : PySem.W.nsIn K mainGlobals "list" = some none)
  (zb10 : PySem.W.nsIn K mainGlobals "range" = some none)
  (zb11 : PySem.W.nsIn K mainGlobals "enumerate" = some none)
  (zb12 : PySem.W.nsIn K mainGlobals "ValueError" = some none)
  (zc0 : PySem.W.nsIn K mainGlobals "MOST_FEW" = some (some (.int 999 tc0)))
  (zc1 : PySem.W.nsIn K mainGlobals "MOST_TIMES" = some (some (.int 999 tc1)))
  (zc2 : PySem.W.nsIn K mainGlobals "MOST_MANY" = some (some (.int 99999 tc2)))
  (zc3 : PySem.W.nsIn K mainGlobals "BLANK" = some (some (.int 32 tc3)))
  (zc4 : PySem.W.nsIn K mainGlobals "TILDE" = some (some (.int 126 tc4)))
  (zc5 : PySem.W.nsIn K mainGlobals "PERCENT" = some (some (.int 37 tc5)))
  (zc6 : PySem.W.nsIn K mainGlobals "MOST_SIGNS" = some (some (.int 2000 tc6)))
  (zc7 : PySem.W.nsIn K mainGlobals "MOST_PIECES" = some (some (.int 2000 tc7)))
  (zc8 : PySem.W.nsIn K mainGlobals "MOST_SIZE" = some (some (.int 200 tc8)))
  (na_NoKey : PySem.W.nsIn K mainGlobals "NoKey" = some (some (.ref C_NoKey)))
  (na_NoSigns : PySem.W.nsIn K mainGlobals "NoSigns" = some (some (.ref C_NoSigns)))
  (na_NoLetter : PySem.W.nsIn K mainGlobals "NoLetter" = some (some (.ref C_NoLetter)))
  (na_NoSize : PySem.W.nsIn K mainGlobals "NoSize" = some (some (.ref C_NoSize)))
  (na_NoCards : PySem.W.nsIn K mainGlobals "NoCards" = some (some (.ref C_NoCards)))
  (na_NoLines : PySem.W.nsIn K mainGlobals "NoLines" = some (some (.ref C_NoLines)))
  (na_Beyond : PySem.W.nsIn K mainGlobals "Beyond" = some (some (.ref C_Beyond)))
  (na_MendError : PySem.W.nsIn K mainGlobals "MendError" = some (some (.ref C_MendError)))
  (xe_NoKey : PySem.W.excIn K C_NoKey VE "ValueError.__new__" = true)
  (xe_NoSigns : PySem.W.excIn K C_NoSigns VE "ValueError.__new__" = true)
  (xe_NoLetter : PySem.W.excIn K C_NoLetter VE "ValueError.__new__" = true)
  (xe_NoSize : PySem.W.excIn K C_NoSize VE "ValueError.__new__" = true)
  (xe_NoCards : PySem.W.excIn K C_NoCards VE "ValueError.__new__" = true)
  (fa_least_between : PySem.W.nsIn K mainGlobals "least_between" = some (some (.ref F_least_between)))
  (fk_least_between : PySem.W.keepIn K (.ref F_least_between) = true)
  (xk_NoCards_0 : PySem.W.mroIn K C_NoCards (.type "object") = some true)
  (xk_NoCards_1 : PySem.W.mroIn K C_NoCards (.type "BaseException") = some true)
  (xk_NoCards_2 : PySem.W.findIn K (.ref C_NoCards) "__getattribute__" = some (some (.builtin "BaseException.__getattribute__")))
  (xk_NoCards_3 : PySem.W.findIn K (.ref C_NoCards) "__getattr__" = some none)
  (xk_NoCards_4 : PySem.W.findIn K (.ref C_NoCards) "__class__" = some (some (.builtin "object.__class__")))
  (xk_NoCards_5 : (PySem.W.clsIn K C_NoCards).isSome = true)
  (xz_NoCards_NoLetter : PySem.W.kitOne K (.ref C_NoCards) (.ref C_NoLetter) = some false)
  (xk_NoKey_0 : PySem.W.mroIn K C_NoKey (.type "object") = some true)
  (xk_NoKey_1 : PySem.W.mroIn K C_NoKey (.type "BaseException") = some true)
  (xk_NoKey_2 : PySem.W.findIn K (.ref C_NoKey) "__getattribute__" = some (some (.builtin "BaseException.__getattribute__")))
  (xk_NoKey_3 : PySem.W.findIn K (.ref C_NoKey) "__getattr__" = some none)
  (xk_NoKey_4 : PySem.W.findIn K (.ref C_NoKey) "__class__" = some (some (.builtin "object.__class__")))
  (xk_NoKey_5 : (PySem.W.clsIn K C_NoKey).isSome = true)
  (xz_NoKey_NoLetter : PySem.W.kitOne K (.ref C_NoKey) (.ref C_NoLetter) = some false)
  (xk_NoLetter_0 : PySem.W.mroIn K C_NoLetter (.type "object") = some true)
  (xk_NoLetter_1 : PySem.W.mroIn K C_NoLetter (.type "BaseException") = some true)
  (xk_NoLetter_2 : PySem.W.findIn K (.ref C_NoLetter) "__getattribute__" = some (some (.builtin "BaseException.__getattribute__")))
  (xk_NoLetter_3 : PySem.W.findIn K (.ref C_NoLetter) "__getattr__" = some none)
  (xk_NoLetter_4 : PySem.W.findIn K (.ref C_NoLetter) "__class__" = some (some (.builtin "object.__class__")))
  (xk_NoLetter_5 : (PySem.W.clsIn K C_NoLetter).isSome = true)
  (xz_NoLetter_NoLetter : PySem.W.kitOne K (.ref C_NoLetter) (.ref C_NoLetter) = some true)
  (xk_NoSigns_0 : PySem.W.mroIn K C_NoSigns (.type "object") = some true)
  (xk_NoSigns_1 : PySem.W.mroIn K C_NoSigns (.type "BaseException") = some true)
  (xk_NoSigns_2 : PySem.W.findIn K (.ref C_NoSigns) "__getattribute__" = some (some (.builtin "BaseException.__getattribute__")))
  (xk_NoSigns_3 : PySem.W.findIn K (.ref C_NoSigns) "__getattr__" = some none)
  (xk_NoSigns_4 : PySem.W.findIn K (.ref C_NoSigns) "__class__" = some (some (.builtin "object.__class__")))
  (xk_NoSigns_5 : (PySem.W.clsIn K C_NoSigns).isSome = true)
  (xz_NoSigns_NoLetter : PySem.W.kitOne K (.ref C_NoSigns) (.ref C_NoLetter) = some false)
  (xk_NoSize_0 : PySem.W.mroIn K C_NoSize (.type "object") = some true)
  (xk_NoSize_1 : PySem.W.mroIn K C_NoSize (.type "BaseException") = some true)
  (xk_NoSize_2 : PySem.W.findIn K (.ref C_NoSize) "__getattribute__" = some (some (.builtin "BaseException.__getattribute__")))
  (xk_NoSize_3 : PySem.W.findIn K (.ref C_NoSize) "__getattr__" = some none)
  (xk_NoSize_4 : PySem.W.findIn K (.ref C_NoSize) "__class__" = some (some (.builtin "object.__class__")))
  (xk_NoSize_5 : (PySem.W.clsIn K C_NoSize).isSome = true)
  (xz_NoSize_NoLetter : PySem.W.kitOne K (.ref C_NoSize) (.ref C_NoLetter) = some false)
  (xz_NoCards_NoSigns : PySem.W.kitOne K (.ref C_NoCards) (.ref C_NoSigns) = some false)
  (xz_NoKey_NoSigns : PySem.W.kitOne K (.ref C_NoKey) (.ref C_NoSigns) = some false)
  (xz_NoLetter_NoSigns : PySem.W.kitOne K (.ref C_NoLetter) (.ref C_NoSigns) = some false)
  (xz_NoSigns_NoSigns : PySem.W.kitOne K (.ref C_NoSigns) (.ref C_NoSigns) = some true)
  (xz_NoSize_NoSigns : PySem.W.kitOne K (.ref C_NoSize) (.ref C_NoSigns) = some false)
  (xz_NoCards_NoSize : PySem.W.kitOne K (.ref C_NoCards) (.ref C_NoSize) = some false)
  (xz_NoKey_NoSize : PySem.W.kitOne K (.ref C_NoKey) (.ref C_NoSize) = some false)
  (xz_NoLetter_NoSize : PySem.W.kitOne K (.ref C_NoLetter) (.ref C_NoSize) = some false)
  (xz_NoSigns_NoSize : PySem.W.kitOne K (.ref C_NoSigns) (.ref C_NoSize) = some false)
  (xz_NoSize_NoSize : PySem.W.kitOne K (.ref C_NoSize) (.ref C_NoSize) = some true)
  (xz_NoCards_NoKey : PySem.W.kitOne K (.ref C_NoCards) (.ref C_NoKey) = some false)
  (xz_NoKey_NoKey : PySem.W.kitOne K (.ref C_NoKey) (.ref C_NoKey) = some true)
  (xz_NoLetter_NoKey : PySem.W.kitOne K (.ref C_NoLetter) (.ref C_NoKey) = some false)
  (xz_NoSigns_NoKey : PySem.W.kitOne K (.ref C_NoSigns) (.ref C_NoKey) = some false)
  (xz_NoSize_NoKey : PySem.W.kitOne K (.ref C_NoSize) (.ref C_NoKey) = some false)
  (xz_NoCards_NoLines : PySem.W.kitOne K (.ref C_NoCards) (.ref C_NoLines) = some false)
  (xz_NoKey_NoLines : PySem.W.kitOne K (.ref C_NoKey) (.ref C_NoLines) = some false)
  (xz_NoLetter_NoLines : PySem.W.kitOne K (.ref C_NoLetter) (.ref C_NoLines) = some false)
  (xz_NoSigns_NoLines : PySem.W.kitOne K (.ref C_NoSigns) (.ref C_NoLines) = some false)
  (xz_NoSize_NoLines : PySem.W.kitOne K (.ref C_NoSize) (.ref C_NoLines) = some false)
  (xz_NoCards_Beyond : PySem.W.kitOne K (.ref C_NoCards) (.ref C_Beyond) = some false)
  (xz_NoKey_Beyond : PySem.W.kitOne K (.ref C_NoKey) (.ref C_Beyond) = some false)
  (xz_NoLetter_Beyond : PySem.W.kitOne K (.ref C_NoLetter) (.ref C_Beyond) = some false)
  (xz_NoSigns_Beyond : PySem.W.kitOne K (.ref C_NoSigns) (.ref C_Beyond) = some false)
  (xz_NoSize_Beyond : PySem.W.kitOne K (.ref C_NoSize) (.ref C_Beyond) = some false)
  (xz_NoCards_NoCards : PySem.W.kitOne K (.ref C_NoCards) (.ref C_NoCards) = some true)
  (xz_NoKey_NoCards : PySem.W.kitOne K (.ref C_NoKey) (.ref C_NoCards) = some false)
  (xz_NoLetter_NoCards : PySem.W.kitOne K (.ref C_NoLetter) (.ref C_NoCards) = some false)
  (xz_NoSigns_NoCards : PySem.W.kitOne K (.ref C_NoSigns) (.ref C_NoCards) = some false)
  (xz_NoSize_NoCards : PySem.W.kitOne K (.ref C_NoSize) (.ref C_NoCards) = some false)
  (xi_NoCards_ValueError : PySem.W.kitOne K (.ref C_NoCards) (.type "ValueError") = some true)
  (xi_NoKey_ValueError : PySem.W.kitOne K (.ref C_NoKey) (.type "ValueError") = some true)
  (xi_NoLetter_ValueError : PySem.W.kitOne K (.ref C_NoLetter) (.type "ValueError") = some true)
  (xi_NoSigns_ValueError : PySem.W.kitOne K (.ref C_NoSigns) (.type "ValueError") = some true)
  (xi_NoSize_ValueError : PySem.W.kitOne K (.ref C_NoSize) (.type "ValueError") = some true)
  (xm_NoCards_MendError : PySem.W.exmOne K (.ref C_NoCards) (.ref C_MendError) = some true)
  (xm_NoKey_MendError : PySem.W.exmOne K (.ref C_NoKey) (.ref C_MendError) = some true)
  (xm_NoLetter_MendError : PySem.W.exmOne K (.ref C_NoLetter) (.ref C_MendError) = some true)
  (xm_NoSigns_MendError : PySem.W.exmOne K (.ref C_NoSigns) (.ref C_MendError) = some true)
  (xm_NoSize_MendError : PySem.W.exmOne K (.ref C_NoSize) (.ref C_MendError) = some true)
  (hg : ∀ ns : List Int, ns.length ≤ 63 → g_law [.lst (ns.map D.int)] = .ok (.bl true)) :
  ∃ fd : FuncData, (∀ (s : Shared) (v : Value), BindsTo s fd ⟨[v], []⟩ [("_law_script", v)]) ∧ ∀ base : Heap, K.In base → base.Ns mainGlobals mg → FnOk l.prog w K mg base CX0 14 fa fd ["_law_script"] (spLaw K) := by
 have e := hfa.symm.trans (PySem.W.mg_of X G a46)
 cases e
 have T : Txt K mg := ⟨PySem.W.mg_none_of X G zb0, PySem.W.mg_none_of X G zb1, PySem.W.mg_none_of X G zb2, PySem.W.mg_none_of X G zb3, PySem.W.mg_none_of X G zb4, PySem.W.mg_none_of X G zb5, PySem.W.mg_none_of X G zb6, PySem.W.mg_none_of X G zb7, PySem.W.mg_none_of X G zb8, PySem.W.mg_none_of X G zb9, PySem.W.mg_none_of X G zb10, PySem.W.mg_none_of X G zb11, PySem.W.mg_none_of X G zb12, ⟨_, PySem.W.mg_of X G zc0⟩, ⟨_, PySem.W.mg_of X G zc1⟩, ⟨_, PySem.W.mg_of X G zc2⟩, ⟨_, PySem.W.mg_of X G zc3⟩, ⟨_, PySem.W.mg_of X G zc4⟩, ⟨_, PySem.W.mg_of X G zc5⟩, ⟨_, PySem.W.mg_of X G zc6⟩, ⟨_, PySem.W.mg_of X G zc7⟩, ⟨_, PySem.W.mg_of X G zc8⟩, ⟨_, PySem.W.mg_of X G na_NoKey, xe_NoKey⟩, ⟨_, PySem.W.mg_of X G na_NoSigns, xe_NoSigns⟩, ⟨_, PySem.W.mg_of X G na_NoLetter, xe_NoLetter⟩, ⟨_, PySem.W.mg_of X G na_NoSize, xe_NoSize⟩, ⟨_, PySem.W.mg_of X G na_NoCards, xe_NoCards⟩, ⟨_, PySem.W.mg_of X G fa_least_between, fk_least_between⟩, ⟨_, PySem.W.mg_of X G na_NoLetter, (List.forall_mem_cons.mpr ⟨⟨_, na_NoCards, ⟨xk_NoCards_0, xk_NoCards_1, xk_NoCards_2, xk_NoCards_3, xk_NoCards_4, xk_NoCards_5⟩, xz_NoCards_NoLetter⟩, (List.forall_mem_cons.mpr ⟨⟨_, na_NoKey, ⟨xk_NoKey_0, xk_NoKey_1, xk_NoKey_2, xk_NoKey_3, xk_NoKey_4, xk_NoKey_5⟩, xz_NoKey_NoLetter⟩, (List.forall_mem_cons.mpr ⟨⟨_, na_NoLetter, ⟨xk_NoLetter_0, xk_NoLetter_1, xk_NoLetter_2, xk_NoLetter_3, xk_NoLetter_4, xk_NoLetter_5⟩, xz_NoLetter_NoLetter⟩, (List.forall_mem_cons.mpr ⟨⟨_, na_NoSigns, ⟨xk_NoSigns_0, xk_NoSigns_1, xk_NoSigns_2, xk_NoSigns_3, xk_NoSigns_4, xk_NoSigns_5⟩, xz_NoSigns_NoLetter⟩, (List.forall_mem_cons.mpr ⟨⟨_, na_NoSize, ⟨xk_NoSize_0, xk_NoSize_1, xk_NoSize_2, xk_NoSize_3, xk_NoSize_4, xk_NoSize_5⟩, xz_NoSize_NoLetter⟩, (fun _ z => by cases z)⟩)⟩)⟩)⟩)⟩)⟩, ⟨_, PySem.W.mg_of X G na_NoSigns, (List.forall_mem_cons.mpr ⟨⟨_, na_NoCards, ⟨xk_NoCards_0, xk_NoCards_1, xk_NoCards_2, xk_NoCards_3, xk_NoCards_4, xk_NoCards_5⟩, xz_NoCards_NoSigns⟩, (List.forall_mem_cons.mpr ⟨⟨_, na_NoKey, ⟨xk_NoKey_0, xk_NoKey_1, xk_NoKey_2, xk_NoKey_3, xk_NoKey_4, xk_NoKey_5⟩, xz_NoKey_NoSigns⟩, (List.forall_mem_cons.mpr ⟨⟨_, na_NoLetter, ⟨xk_NoLetter_0, xk_NoLetter_1, xk_NoLetter_2, xk_NoLetter_3, xk_NoLetter_4, xk_NoLetter_5⟩, xz_NoLetter_NoSigns⟩, (List.forall_mem_cons.mpr ⟨⟨_, na_NoSigns, ⟨xk_NoSigns_0, xk_NoSigns_1, xk_NoSigns_2, xk_NoSigns_3, xk_NoSigns_4, xk_NoSigns_5⟩, xz_NoSigns_NoSigns⟩, (List.forall_mem_cons.mpr ⟨⟨_, na_NoSize, ⟨xk_NoSize_0, xk_NoSize_1, xk_NoSize_2, xk_NoSize_3, xk_NoSize_4, xk_NoSize_5⟩, xz_NoSize_NoSigns⟩, (fun _ z => by cases z)⟩)⟩)⟩)⟩)⟩)⟩, ⟨_, PySem.W.mg_of X G na_NoSize, (List.forall_mem_cons.mpr ⟨⟨_, na_NoCards, ⟨xk_NoCards_0, xk_NoCards_1, xk_NoCards_2, xk_NoCards_3, xk_NoCards_4, xk_NoCards_5⟩, xz_NoCards_NoSize⟩, (List.forall_mem_cons.mpr ⟨⟨_, na_NoKey, ⟨xk_NoKey_0, xk_NoKey_1, xk_NoKey_2, xk_NoKey_3, xk_NoKey_4, xk_NoKey_5⟩, xz_NoKey_NoSize⟩, (List.forall_mem_cons.mpr ⟨⟨_, na_NoLetter, ⟨xk_NoLetter_0, xk_NoLetter_1, xk_NoLetter_2, xk_NoLetter_3, xk_NoLetter_4, xk_NoLetter_5⟩, xz_NoLetter_NoSize⟩, (List.forall_mem_cons.mpr ⟨⟨_, na_NoSigns, ⟨xk_NoSigns_0, xk_NoSigns_1, xk_NoSigns_2, xk_NoSigns_3, xk_NoSigns_4, xk_NoSigns_5⟩, xz_NoSigns_NoSize⟩, (List.forall_mem_cons.mpr ⟨⟨_, na_NoSize, ⟨xk_NoSize_0, xk_NoSize_1, xk_NoSize_2, xk_NoSize_3, xk_NoSize_4, xk_NoSize_5⟩, xz_NoSize_NoSize⟩, (fun _ z => by cases z)⟩)⟩)⟩)⟩)⟩)⟩, ⟨_, PySem.W.mg_of X G na_NoKey, (List.forall_mem_cons.mpr ⟨⟨_, na_NoCards, ⟨xk_NoCards_0, xk_NoCards_1, xk_NoCards_2, xk_NoCards_3, xk_NoCards_4, xk_NoCards_5⟩, xz_NoCards_NoKey⟩, (List.forall_mem_cons.mpr ⟨⟨_, na_NoKey, ⟨xk_NoKey_0, xk_NoKey_1, xk_NoKey_2, xk_NoKey_3, xk_NoKey_4, xk_NoKey_5⟩, xz_NoKey_NoKey⟩, (List.forall_mem_cons.mpr ⟨⟨_, na_NoLetter, ⟨xk_NoLetter_0, xk_NoLetter_1, xk_NoLetter_2, xk_NoLetter_3, xk_NoLetter_4, xk_NoLetter_5⟩, xz_NoLetter_NoKey⟩, (List.forall_mem_cons.mpr ⟨⟨_, na_NoSigns, ⟨xk_NoSigns_0, xk_NoSigns_1, xk_NoSigns_2, xk_NoSigns_3, xk_NoSigns_4, xk_NoSigns_5⟩, xz_NoSigns_NoKey⟩, (List.forall_mem_cons.mpr ⟨⟨_, na_NoSize, ⟨xk_NoSize_0, xk_NoSize_1, xk_NoSize_2, xk_NoSize_3, xk_NoSize_4, xk_NoSize_5⟩, xz_NoSize_NoKey⟩, (fun _ z => by cases z)⟩)⟩)⟩)⟩)⟩)⟩, ⟨_, PySem.W.mg_of X G na_NoLines, (List.forall_mem_cons.mpr ⟨⟨_, na_NoCards, ⟨xk_NoCards_0, xk_NoCards_1, xk_NoCards_2, xk_NoCards_3, xk_NoCards_4, xk_NoCards_5⟩, xz_NoCards_NoLines⟩, (List.forall_mem_cons.mpr ⟨⟨_, na_NoKey, ⟨xk_NoKey_0, xk_NoKey_1, xk_NoKey_2, xk_NoKey_3, xk_NoKey_4, xk_NoKey_5⟩, xz_NoKey_NoLines⟩, (List.forall_mem_cons.mpr ⟨⟨_, na_NoLetter, ⟨xk_NoLetter_0, xk_NoLetter_1, xk_NoLetter_2, xk_NoLetter_3, xk_NoLetter_4, xk_NoLetter_5⟩, xz_NoLetter_NoLines⟩, (List.forall_mem_cons.mpr ⟨⟨_, na_NoSigns, ⟨xk_NoSigns_0, xk_NoSigns_1, xk_NoSigns_2, xk_NoSigns_3, xk_NoSigns_4, xk_NoSigns_5⟩, xz_NoSigns_NoLines⟩, (List.forall_mem_cons.mpr ⟨⟨_, na_NoSize, ⟨xk_NoSize_0, xk_NoSize_1, xk_NoSize_2, xk_NoSize_3, xk_NoSize_4, xk_NoSize_5⟩, xz_NoSize_NoLines⟩, (fun _ z => by cases z)⟩)⟩)⟩)⟩)⟩)⟩, ⟨_, PySem.W.mg_of X G na_Beyond, (List.forall_mem_cons.mpr ⟨⟨_, na_NoCards, ⟨xk_NoCards_0, xk_NoCards_1, xk_NoCards_2, xk_NoCards_3, xk_NoCards_4, xk_NoCards_5⟩, xz_NoCards_Beyond⟩, (List.forall_mem_cons.mpr ⟨⟨_, na_NoKey, ⟨xk_NoKey_0, xk_NoKey_1, xk_NoKey_2, xk_NoKey_3, xk_NoKey_4, xk_NoKey_5⟩, xz_NoKey_Beyond⟩, (List.forall_mem_cons.mpr ⟨⟨_, na_NoLetter, ⟨xk_NoLetter_0, xk_NoLetter_1, xk_NoLetter_2, xk_NoLetter_3, xk_NoLetter_4, xk_NoLetter_5⟩, xz_NoLetter_Beyond⟩, (List.forall_mem_cons.mpr ⟨⟨_, na_NoSigns, ⟨xk_NoSigns_0, xk_NoSigns_1, xk_NoSigns_2, xk_NoSigns_3, xk_NoSigns_4, xk_NoSigns_5⟩, xz_NoSigns_Beyond⟩, (List.forall_mem_cons.mpr ⟨⟨_, na_NoSize, ⟨xk_NoSize_0, xk_NoSize_1, xk_NoSize_2, xk_NoSize_3, xk_NoSize_4, xk_NoSize_5⟩, xz_NoSize_Beyond⟩, (fun _ z => by cases z)⟩)⟩)⟩)⟩)⟩)⟩, ⟨_, PySem.W.mg_of X G na_NoCards, (List.forall_mem_cons.mpr ⟨⟨_, na_NoCards, ⟨xk_NoCards_0, xk_NoCards_1, xk_NoCards_2, xk_NoCards_3, xk_NoCards_4, xk_NoCards_5⟩, xz_NoCards_NoCards⟩, (List.forall_mem_cons.mpr ⟨⟨_, na_NoKey, ⟨xk_NoKey_0, xk_NoKey_1, xk_NoKey_2, xk_NoKey_3, xk_NoKey_4, xk_NoKey_5⟩, xz_NoKey_NoCards⟩, (List.forall_mem_cons.mpr ⟨⟨_, na_NoLetter, ⟨xk_NoLetter_0, xk_NoLetter_1, xk_NoLetter_2, xk_NoLetter_3, xk_NoLetter_4, xk_NoLetter_5⟩, xz_NoLetter_NoCards⟩, (List.forall_mem_cons.mpr ⟨⟨_, na_NoSigns, ⟨xk_NoSigns_0, xk_NoSigns_1, xk_NoSigns_2, xk_NoSigns_3, xk_NoSigns_4, xk_NoSigns_5⟩, xz_NoSigns_NoCards⟩, (List.forall_mem_cons.mpr ⟨⟨_, na_NoSize, ⟨xk_NoSize_0, xk_NoSize_1, xk_NoSize_2, xk_NoSize_3, xk_NoSize_4, xk_NoSize_5⟩, xz_NoSize_NoCards⟩, (fun _ z => by cases z)⟩)⟩)⟩)⟩)⟩)⟩, (List.forall_mem_cons.mpr ⟨⟨_, na_NoCards, xi_NoCards_ValueError⟩, (List.forall_mem_cons.mpr ⟨⟨_, na_NoKey, xi_NoKey_ValueError⟩, (List.forall_mem_cons.mpr ⟨⟨_, na_NoLetter, xi_NoLetter_ValueError⟩, (List.forall_mem_cons.mpr ⟨⟨_, na_NoSigns, xi_NoSigns_ValueError⟩, (List.forall_mem_cons.mpr ⟨⟨_, na_NoSize, xi_NoSize_ValueError⟩, (fun _ z => by cases z)⟩)⟩)⟩)⟩)⟩), (List.forall_mem_cons.mpr ⟨⟨_, _, PySem.W.mg_of X G na_NoCards, na_NoCards, PySem.W.mg_of X G na_MendError, xm_NoCards_MendError⟩, (List.forall_mem_cons.mpr ⟨⟨_, _, PySem.W.mg_of X G na_NoKey, na_NoKey, PySem.W.mg_of X G na_MendError, xm_NoKey_MendError⟩, (List.forall_mem_cons.mpr ⟨⟨_, _, PySem.W.mg_of X G na_NoLetter, na_NoLetter, PySem.W.mg_of X G na_MendError, xm_NoLetter_MendError⟩, (List.forall_mem_cons.mpr ⟨⟨_, _, PySem.W.mg_of X G na_NoSigns, na_NoSigns, PySem.W.mg_of X G na_MendError, xm_NoSigns_MendError⟩, (List.forall_mem_cons.mpr ⟨⟨_, _, PySem.W.mg_of X G na_NoSize, na_NoSize, PySem.W.mg_of X G na_MendError, xm_NoSize_MendError⟩, (fun _ z => by cases z)⟩)⟩)⟩)⟩)⟩)⟩
 have F1 := fun_mk (st := top 84) l1 c1 k1
 have F2 := fun_mk (st := top 85) l2 c2 k2
 have F3 := fun_mk (st := top 90) l3 c3 k3
 have F4 := fun_mk (st := top 18) l4 c4 k4
 have F5 := fun_mk (st := top 19) l5 c5 k5
 have F6 := fun_mk (st := top 20) l6 c6 k6
 have F7 := fun_mk (st := top 23) l7 c7 k7
 have F8 := fun_mk (st := top 25) l8 c8 k8
 have F9 := fun_mk (st := top 21) l9 c9 k9
 have F10 := fun_mk (st := top 22) l10 c10 k10
 have F11 := fun_mk (st := top 24) l11 c11 k11
 have F12 := fun_mk (st := top 37) l12 c12 k12
 have F13 := fun_mk (st := top 36) l13 c13 k13
 have F14 := fun_mk (st := top 35) l14 c14 k14
 have F15 := fun_mk (st := top 34) l15 c15 k15
 have F16 := fun_mk (st := top 32) l16 c16 k16
 have F17 := fun_mk (st := top 50) l17 c17 k17
 have F18 := fun_mk (st := top 55) l18 c18 k18
 have F19 := fun_mk (st := top 53) l19 c19 k19
 have F20 := fun_mk (st := top 54) l20 c20 k20
 have F21 := fun_mk (st := top 51) l21 c21 k21
 have F22 := fun_mk (st := top 26) l22 c22 k22
 have F23 := fun_mk (st := top 59) l23 c23 k23
 have F24 := fun_mk (st := top 57) l24 c24 k24
 have F25 := fun_mk (st := top 61) l25 c25 k25
 have F26 := fun_mk (st := top 60) l26 c26 k26
 have F27 := fun_mk (st := top 58) l27 c27 k27
 have F28 := fun_mk (st := top 81) l28 c28 k28
 have F29 := fun_mk (st := top 68) l29 c29 k29
 have F30 := fun_mk (st := top 52) l30 c30 k30
 have F31 := fun_mk (st := top 65) l31 c31 k31
 have F32 := fun_mk (st := top 66) l32 c32 k32
 have F33 := fun_mk (st := top 67) l33 c33 k33
 have F34 := fun_mk (st := top 86) l34 c34 k34
 have F35 := fun_mk (st := top 87) l35 c35 k35
 have F36 := fun_mk (st := top 71) l36 c36 k36
 have F37 := fun_mk (st := top 30) l37 c37 k37
 have F38 := fun_mk (st := top 72) l38 c38 k38
 have F39 := fun_mk (st := top 88) l39 c39 k39
 have F40 := fun_mk (st := top 29) l40 c40 k40
 have F41 := fun_mk (st := top 31) l41 c41 k41
 have F42 := fun_mk (st := top 77) l42 c42 k42
 have F43 := fun_mk (st := top 33) l43 c43 k43
 have F44 := fun_mk (st := top 89) l44 c44 k44
 have F45 := fun_mk (st := top 91) l45 c45 k45
 have F46 := fun_mk (st := top 92) l46 c46 k46
 refine ⟨PySem.W.fnOf "law" "law" (defArgs (top 92)) (defBody (top 92)) (defScope (top 92)) .none kV46 dc46 pm46 an46 cd46 ct46, fun s v => .of_eq rfl, fun base _ _ => ?_⟩
 have h1 : Fn l.prog w K mg base "_law_cell_at" 1 2 g__law_cell_at := ok__law_cell_at F1 (PySem.W.mg_of X G a1) T 
 have h2 : Fn l.prog w K mg base "_law_mixed" 2 3 g__law_mixed := ok__law_mixed F2 (PySem.W.mg_of X G a2) T h1
 have h3 : Fn l.prog w K mg base "_law_bad" 1 2 g__law_bad := ok__law_bad F3 (PySem.W.mg_of X G a3) T 
 have h4 : Fn l.prog w K mg base "is_whole" 1 1 g_is_whole := ok_is_whole F4 (PySem.W.mg_of X G a4) T 
 have h5 : Fn l.prog w K mg base "is_from" 2 2 g_is_from := ok_is_from F5 (PySem.W.mg_of X G a5) T h4
 have h6 : Fn l.prog w K mg base "is_within" 3 3 g_is_within := ok_is_within F6 (PySem.W.mg_of X G a6) T h5
 have h7 : Fn l.prog w K mg base "is_key" 4 1 g_is_key := ok_is_key F7 (PySem.W.mg_of X G a7) T h6
 have h8 : FnX l.prog w K mg base "check_key" 5 1 g_check_key := ok_check_key F8 (PySem.W.mg_of X G a8) T h7
 have h9 : Fn l.prog w K mg base "is_sign" 1 1 g_is_sign := ok_is_sign F9 (PySem.W.mg_of X G a9) T 
 have h10 : Fn l.prog w K mg base "is_text" 2 1 g_is_text := ok_is_text F10 (PySem.W.mg_of X G a10) T h9
 have h11 : FnX l.prog w K mg base "check_text" 3 1 g_check_text := ok_check_text F11 (PySem.W.mg_of X G a11) T h10
 have h12 : Fn l.prog w K mg base "is_copy" 1 1 g_is_copy := ok_is_copy F12 (PySem.W.mg_of X G a12) T 
 have h13 : Fn l.prog w K mg base "is_piece" 3 1 g_is_piece := ok_is_piece F13 (PySem.W.mg_of X G a13) T h12 h5 h10
 have h14 : Fn l.prog w K mg base "is_letter" 4 1 g_is_letter := ok_is_letter F14 (PySem.W.mg_of X G a14) T h13
 have h15 : FnX l.prog w K mg base "check_letter" 5 1 g_check_letter := ok_check_letter F15 (PySem.W.mg_of X G a15) T h14
 have h16 : FnX l.prog w K mg base "plain" 6 1 g_plain := ok_plain F16 (PySem.W.mg_of X G a16) T h15
 have h17 : FnX l.prog w K mg base "first_sum" 7 2 g_first_sum := ok_first_sum F17 (PySem.W.mg_of X G a17) T h8 h11 h16
 have h18 : Fn l.prog w K mg base "chained" 1 3 g_chained := ok_chained F18 (PySem.W.mg_of X G a18) T 
 have h19 : FnX l.prog w K mg base "second_sum" 6 2 g_second_sum := ok_second_sum F19 (PySem.W.mg_of X G a19) T h8 h11 h18
 have h20 : FnX l.prog w K mg base "whole_sum" 6 2 g_whole_sum := ok_whole_sum F20 (PySem.W.mg_of X G a20) T h8 h11
 have h21 : FnX l.prog w K mg base "rolled" 6 5 g_rolled := ok_rolled F21 (PySem.W.mg_of X G a21) T h8
 have h22 : FnX l.prog w K mg base "check_size" 4 1 g_check_size := ok_check_size F22 (PySem.W.mg_of X G a22) T h6
 have h23 : FnX l.prog w K mg base "card_of" 8 2 g_card_of := ok_card_of F23 (PySem.W.mg_of X G a23) T h17 h19
 have h24 : FnX l.prog w K mg base "cards" 9 3 g_cards := ok_cards F24 (PySem.W.mg_of X G a24) T h8 h22 h11 h23
 have h25 : Fn l.prog w K mg base "is_card" 3 1 g_is_card := ok_is_card F25 (PySem.W.mg_of X G a25) T h5
 have h26 : FnX l.prog w K mg base "check_cards" 4 1 g_check_cards := ok_check_cards F26 (PySem.W.mg_of X G a26) T h25
 have h27 : FnX l.prog w K mg base "found_by" 6 4 g_found_by := ok_found_by F27 (PySem.W.mg_of X G a27) T h8 h22 h26 h11
 have h28 : FnX l.prog w K mg base "talk" 10 4 g_talk := ok_talk F28 (PySem.W.mg_of X G a28) T h27 h24
 have h29 : Fn l.prog w K mg base "first_places" 1 1 g_first_places := ok_first_places F29 (PySem.W.mg_of X G a29) T 
 have h30 : FnX l.prog w K mg base "rolled_sums" 8 3 g_rolled_sums := ok_rolled_sums F30 (PySem.W.mg_of X G a30) T h17 h21
 have h31 : FnX l.prog w K mg base "cut_places" 9 4 g_cut_places := ok_cut_places F31 (PySem.W.mg_of X G a31) T h8 h22 h11 h30
 have h32 : FnX l.prog w K mg base "stretches" 10 4 g_stretches := ok_stretches F32 (PySem.W.mg_of X G a32) T h31
 have h33 : FnX l.prog w K mg base "found_by_cuts" 11 5 g_found_by_cuts := ok_found_by_cuts F33 (PySem.W.mg_of X G a33) T h29 h32 h16
 have h34 : FnX l.prog w K mg base "_law_with_key" 12 4 g__law_with_key := ok__law_with_key F34 (PySem.W.mg_of X G a34) T h17 h19 h20 h21 h24 h27 h28 h33 h31 h32
 have h35 : FnX l.prog w K mg base "_law_with_size" 12 4 g__law_with_size := ok__law_with_size F35 (PySem.W.mg_of X G a35) T h24 h27 h28 h33 h31 h32
 have h36 : FnX l.prog w K mg base "least" 4 2 g_least := ok_least F36 (PySem.W.mg_of X G a36) T h11
 have h37 : FnX l.prog w K mg base "mended" 6 2 g_mended := ok_mended F37 (PySem.W.mg_of X G a37) T h11 h15
 have h38 : FnX l.prog w K mg base "back" 7 2 g_back := ok_back F38 (PySem.W.mg_of X G a38) T h37
 have h39 : FnX l.prog w K mg base "_law_with_text" 12 4 g__law_with_text := ok__law_with_text F39 (PySem.W.mg_of X G a39) T h17 h19 h20 h24 h27 h28 h36 h33 h37 h38 h31 h32
 have h40 : FnX l.prog w K mg base "checked" 6 1 g_checked := ok_checked F40 (PySem.W.mg_of X G a40) T h15
 have h41 : FnX l.prog w K mg base "cost" 6 1 g_cost := ok_cost F41 (PySem.W.mg_of X G a41) T h15
 have h42 : FnX l.prog w K mg base "shown" 6 1 g_shown := ok_shown F42 (PySem.W.mg_of X G a42) T h15
 have h43 : FnX l.prog w K mg base "behind" 6 2 g_behind := ok_behind F43 (PySem.W.mg_of X G a43) T h15
 have h44 : FnX l.prog w K mg base "_law_with_letter" 8 2 g__law_with_letter := ok__law_with_letter F44 (PySem.W.mg_of X G a44) T h40 h41 h16 h42 h37 h38 h43
 have h45 : FnX l.prog w K mg base "_law_case" 13 2 g__law_case := ok__law_case F45 (PySem.W.mg_of X G a45) T h3 h34 h35 h39 h44 h27
 exact law_fn (ok_law F46 T h2 h45) hg
end A
open PySem PySem.W PyProof.Rows
set_option maxRecDepth 100000 in
set_option maxHeartbeats 0 in
theorem PySem.Challenge.cw_rollmend_k18_refused_holds : PySem.Challenge.rw_rollmend_k18_refused.Holds := by
 w_on; o_law
 refine PySem.W.holds_open (q := A.qv) (loose := []) (Xt := A.xt) (XP := PySem.W.XL A.qv []) (Yf := A.HK.obs) (Ya := A.HK.val) (YP := A.HK.says) (N := 7866)
  A.lft A.HK.of A.HK.keeps (fun s e => PySem.W.xl_of s (Bool.and_eq_true_iff.mp e).1) PySem.W.XL.keeps (by rfl) (by rfl) (by rfl)
  (fun s e => PySem.W.recFacts_of (Bool.and_eq_true_iff.mp e).2) (by rfl) (by assumption) (by decide +kernel) ⟨rfl, rfl, rfl, rfl, rfl, by decide +kernel⟩ ?hw ?hc
 (case hw => w_witness2)
 k_fill
 refine M.walk (l := PySem.Challenge.rw_rollmend_k18_refused) (k := 14) (x := "_law_script") rfl ⟨rfl, by decide, by decide⟩ rfl (fun w h Y => PySem.W.kIn_of Y) ?F
 case F =>
  intro w mg fa h KX G hmg
  refine' A.all_mk (f1 := 499) (f2 := 506) (f3 := 541) (f4 := 118) (f5 := 125) (f6 := 132) (f7 := 151) (f8 := 165) (f9 := 139) (f10 := 144) (f11 := 158) (f12 := 229) (f13 := 222) (f14 := 215) (f15 := 210) (f16 := 196) (f17 := 313) (f18 := 348) (f19 := 334) (f20 := 341) (f21 := 320) (f22 := 172) (f23 := 367) (f24 := 353) (f25 := 379) (f26 := 372) (f27 := 360) (f28 := 485) (f29 := 417) (f30 := 327) (f31 := 398) (f32 := 405) (f33 := 410) (f34 := 513) (f35 := 520) (f36 := 431) (f37 := 184) (f38 := 438) (f39 := 527) (f40 := 179) (f41 := 189) (f42 := 464) (f43 := 203) (f44 := 534) (f45 := 548) (f46 := 555) (tc0 := 329) (tc1 := 331) (tc2 := 333) (tc3 := 323) (tc4 := 327) (tc5 := 325) (tc6 := 321) (tc7 := 405) (tc8 := 335) (C_NoKey := 49) (C_NoSigns := 37) (C_NoLetter := 73) (C_NoSize := 61) (C_NoCards := 97) (C_NoLines := 109) (C_Beyond := 85) (C_MendError := 24) (F_least_between := 445) KX G hmg ?a1 ?l1 ?c1 ?k1 ?a2 ?l2 ?c2 ?k2 ?a3 ?l3 ?c3 ?k3 ?a4 ?l4 ?c4 ?k4 ?a5 ?l5 ?c5 ?k5 ?a6 ?l6 ?c6 ?k6 ?a7 ?l7 ?c7 ?k7 ?a8 ?l8 ?c8 ?k8 ?a9 ?l9 ?c9 ?k9 ?a10 ?l10 ?c10 ?k10 ?a11 ?l11 ?c11 ?k11 ?a12 ?l12 ?c12 ?k12 ?a13 ?l13 ?c13 ?k13 ?a14 ?l14 ?c14 ?k14 ?a15 ?l15 ?c15 ?k15 ?a16 ?l16 ?c16 ?k16 ?a17 ?l17 ?c17 ?k17 ?a18 ?l18 ?c18 ?k18 ?a19 ?l19 ?c19 ?k19 ?a20 ?l20 ?c20 ?k20 ?a21 ?l21 ?c21 ?k21 ?a22 ?l22 ?c22 ?k22 ?a23 ?l23 ?c23 ?k23 ?a24 ?l24 ?c24 ?k24 ?a25 ?l25 ?c25 ?k25 ?a26 ?l26 ?c26 ?k26 ?a27 ?l27 ?c27 ?k27 ?a28 ?l28 ?c28 ?k28 ?a29 ?l29 ?c29 ?k29 ?a30 ?l30 ?c30 ?k30 ?a31 ?l31 ?c31 ?k31 ?a32 ?l32 ?c32 ?k32 ?a33 ?l33 ?c33 ?k33 ?a34 ?l34 ?c34 ?k34 ?a35 ?l35 ?c35 ?k35 ?a36 ?l36 ?c36 ?k36 ?a37 ?l37 ?c37 ?k37 ?a38 ?l38 ?c38 ?k38 ?a39 ?l39 ?c39 ?k39 ?a40 ?l40 ?c40 ?k40 ?a41 ?l41 ?c41 ?k41 ?a42 ?l42 ?c42 ?k42 ?a43 ?l43 ?c43 ?k43 ?a44 ?l44 ?c44 ?k44 ?a45 ?l45 ?c45 ?k45 ?a46 ?l46 ?c46 ?k46 ?zb0 ?zb1 ?zb2 ?zb3 ?zb4 ?zb5 ?zb6 ?zb7 ?zb8 ?zb9 ?zb10 ?zb11 ?zb12 ?zc0 ?zc1 ?zc2 ?zc3 ?zc4 ?zc5 ?zc6 ?zc7 ?zc8 ?na_NoKey ?na_NoSigns ?na_NoLetter ?na_NoSize ?na_NoCards ?na_NoLines ?na_Beyond ?na_MendError ?xe_NoKey ?xe_NoSigns ?xe_NoLetter ?xe_NoSize ?xe_NoCards ?fa_least_between ?fk_least_between ?xk_NoCards_0 ?xk_NoCards_1 ?xk_NoCards_2 ?xk_NoCards_3 ?xk_NoCards_4 ?xk_NoCards_5 ?xz_NoCards_NoLetter ?xk_NoKey_0 ?xk_NoKey_1 ?xk_NoKey_2 ?xk_NoKey_3 ?xk_NoKey_4 ?xk_NoKey_5 ?xz_NoKey_NoLetter ?xk_NoLetter_0 ?xk_NoLetter_1 ?xk_NoLetter_2 ?xk_NoLetter_3 ?xk_NoLetter_4 ?xk_NoLetter_5 ?xz_NoLetter_NoLetter ?xk_NoSigns_0 ?xk_NoSigns_1 ?xk_NoSigns_2 ?xk_NoSigns_3 ?xk_NoSigns_4 ?xk_NoSigns_5 ?xz_NoSigns_NoLetter ?xk_NoSize_0 ?xk_NoSize_1 ?xk_NoSize_2 ?xk_NoSize_3 ?xk_NoSize_4 ?xk_NoSize_5 ?xz_NoSize_NoLetter ?xz_NoCards_NoSigns ?xz_NoKey_NoSigns ?xz_NoLetter_NoSigns ?xz_NoSigns_NoSigns ?xz_NoSize_NoSigns ?xz_NoCards_NoSize ?xz_NoKey_NoSize ?xz_NoLetter_NoSize ?xz_NoSigns_NoSize ?xz_NoSize_NoSize ?xz_NoCards_NoKey ?xz_NoKey_NoKey ?xz_NoLetter_NoKey ?xz_NoSigns_NoKey ?xz_NoSize_NoKey ?xz_NoCards_NoLines ?xz_NoKey_NoLines ?xz_NoLetter_NoLines ?xz_NoSigns_NoLines ?xz_NoSize_NoLines ?xz_NoCards_Beyond ?xz_NoKey_Beyond ?xz_NoLetter_Beyond ?xz_NoSigns_Beyond ?xz_NoSize_Beyond ?xz_NoCards_NoCards ?xz_NoKey_NoCards ?xz_NoLetter_NoCards ?xz_NoSigns_NoCards ?xz_NoSize_NoCards ?xi_NoCards_ValueError ?xi_NoKey_ValueError ?xi_NoLetter_ValueError ?xi_NoSigns_ValueError ?xi_NoSize_ValueError ?xm_NoCards_MendError ?xm_NoKey_MendError ?xm_NoLetter_MendError ?xm_NoSigns_MendError ?xm_NoSize_MendError A.math
  (case a1 => kernel_rfl)
  (case l1 => exact A.kl499 _)
  (case c1 => kernel_rfl)
  (case k1 => kernel_rfl)
  (case a2 => kernel_rfl)
  (case l2 => exact A.kl506 _)
  (case c2 => kernel_rfl)
  (case k2 => kernel_rfl)
  (case a3 => kernel_rfl)
  (case l3 => exact A.kl541 _)
  (case c3 => kernel_rfl)
  (case k3 => kernel_rfl)
  (case a4 => kernel_rfl)
  (case l4 => exact A.kl118 _)
  (case c4 => kernel_rfl)
  (case k4 => kernel_rfl)
  (case a5 => kernel_rfl)
  (case l5 => exact A.kl125 _)
  (case c5 => kernel_rfl)
  (case k5 => kernel_rfl)
  (case a6 => kernel_rfl)
  (case l6 => exact A.kl132 _)
  (case c6 => kernel_rfl)
  (case k6 => kernel_rfl)
  (case a7 => kernel_rfl)
  (case l7 => exact A.kl151 _)
  (case c7 => kernel_rfl)
  (case k7 => kernel_rfl)
  (case a8 => kernel_rfl)
  (case l8 => exact A.kl165 _)
  (case c8 => kernel_rfl)
  (case k8 => kernel_rfl)
  (case a9 => kernel_rfl)
  (case l9 => exact A.kl139 _)
  (case c9 => kernel_rfl)
  (case k9 => kernel_rfl)
  (case a10 => kernel_rfl)
  (case l10 => exact A.kl144 _)
  (case c10 => kernel_rfl)
  (case k10 => kernel_rfl)
  (case a11 => kernel_rfl)
  (case l11 => exact A.kl158 _)
  (case c11 => kernel_rfl)
  (case k11 => kernel_rfl)
  (case a12 => kernel_rfl)
  (case l12 => exact A.kl229 _)
  (case c12 => kernel_rfl)
  (case k12 => kernel_rfl)
  (case a13 => kernel_rfl)
  (case l13 => exact A.kl222 _)
  (case c13 => kernel_rfl)
  (case k13 => kernel_rfl)
  (case a14 => kernel_rfl)
  (case l14 => exact A.kl215 _)
  (case c14 => kernel_rfl)
  (case k14 => kernel_rfl)
  (case a15 => kernel_rfl)
  (case l15 => exact A.kl210 _)
  (case c15 => kernel_rfl)
  (case k15 => kernel_rfl)
  (case a16 => kernel_rfl)
  (case l16 => exact A.kl196 _)
  (case c16 => kernel_rfl)
  (case k16 => kernel_rfl)
  (case a17 => kernel_rfl)
  (case l17 => exact A.kl313 _)
  (case c17 => kernel_rfl)
  (case k17 => kernel_rfl)
  (case a18 => kernel_rfl)
  (case l18 => exact A.kl348 _)
  (case c18 => kernel_rfl)
  (case k18 => kernel_rfl)
  (case a19 => kernel_rfl)
  (case l19 => exact A.kl334 _)
  (case c19 => kernel_rfl)
  (case k19 => kernel_rfl)
  (case a20 => kernel_rfl)
  (case l20 => exact A.kl341 _)
  (case c20 => kernel_rfl)
  (case k20 => kernel_rfl)
  (case a21 => kernel_rfl)
  (case l21 => exact A.kl320 _)
  (case c21 => kernel_rfl)
  (case k21 => kernel_rfl)
  (case a22 => kernel_rfl)
  (case l22 => exact A.kl172 _)
  (case c22 => kernel_rfl)
  (case k22 => kernel_rfl)
  (case a23 => kernel_rfl)
  (case l23 => exact A.kl367 _)
  (case c23 => kernel_rfl)
  (case k23 => kernel_rfl)
  (case a24 => kernel_rfl)
  (case l24 => exact A.kl353 _)
  (case c24 => kernel_rfl)
  (case k24 => kernel_rfl)
  (case a25 => kernel_rfl)
  (case l25 => exact A.kl379 _)
  (case c25 => kernel_rfl)
  (case k25 => kernel_rfl)
  (case a26 => kernel_rfl)
  (case l26 => exact A.kl372 _)
  (case c26 => kernel_rfl)
  (case k26 => kernel_rfl)
  (case a27 => kernel_rfl)
  (case l27 => exact A.kl360 _)
  (case c27 => kernel_rfl)
  (case k27 => kernel_rfl)
  (case a28 => kernel_rfl)
  (case l28 => exact A.kl485 _)
  (case c28 => kernel_rfl)
  (case k28 => kernel_rfl)
  (case a29 => kernel_rfl)
  (case l29 => exact A.kl417 _)
  (case c29 => kernel_rfl)
  (case k29 => kernel_rfl)
  (case a30 => kernel_rfl)
  (case l30 => exact A.kl327 _)
  (case c30 => kernel_rfl)
  (case k30 => kernel_rfl)
  (case a31 => kernel_rfl)
  (case l31 => exact A.kl398 _)
  (case c31 => kernel_rfl)
  (case k31 => kernel_rfl)
  (case a32 => kernel_rfl)
  (case l32 => exact A.kl405 _)
  (case c32 => kernel_rfl)
  (case k32 => kernel_rfl)
  (case a33 => kernel_rfl)
  (case l33 => exact A.kl410 _)
  (case c33 => kernel_rfl)
  (case k33 => kernel_rfl)
  (case a34 => kernel_rfl)
  (case l34 => exact A.kl513 _)
  (case c34 => kernel_rfl)
  (case k34 => kernel_rfl)
  (case a35 => kernel_rfl)
  (case l35 => exact A.kl520 _)
  (case c35 => kernel_rfl)
  (case k35 => kernel_rfl)
  (case a36 => kernel_rfl)
  (case l36 => exact A.kl431 _)
  (case c36 => kernel_rfl)
  (case k36 => kernel_rfl)
  (case a37 => kernel_rfl)
  (case l37 => exact A.kl184 _)
  (case c37 => kernel_rfl)
  (case k37 => kernel_rfl)
  (case a38 => kernel_rfl)
  (case l38 => exact A.kl438 _)
  (case c38 => kernel_rfl)
  (case k38 => kernel_rfl)
  (case a39 => kernel_rfl)
  (case l39 => exact A.kl527 _)
  (case c39 => kernel_rfl)
  (case k39 => kernel_rfl)
  (case a40 => kernel_rfl)
  (case l40 => exact A.kl179 _)
  (case c40 => kernel_rfl)
  (case k40 => kernel_rfl)
  (case a41 => kernel_rfl)
  (case l41 => exact A.kl189 _)
  (case c41 => kernel_rfl)
  (case k41 => kernel_rfl)
  (case a42 => kernel_rfl)
  (case l42 => exact A.kl464 _)
  (case c42 => kernel_rfl)
  (case k42 => kernel_rfl)
  (case a43 => kernel_rfl)
  (case l43 => exact A.kl203 _)
  (case c43 => kernel_rfl)
  (case k43 => kernel_rfl)
  (case a44 => kernel_rfl)
  (case l44 => exact A.kl534 _)
  (case c44 => kernel_rfl)
  (case k44 => kernel_rfl)
  (case a45 => kernel_rfl)
  (case l45 => exact A.kl548 _)
  (case c45 => kernel_rfl)
  (case k45 => kernel_rfl)
  (case a46 => kernel_rfl)
  (case l46 => exact A.kl555 _)
  (case c46 => kernel_rfl)
  (case k46 => kernel_rfl)
  (case zb0 => kernel_rfl)
  (case zb1 => kernel_rfl)
  (case zb2 => kernel_rfl)
  (case zb3 => kernel_rfl)
  (case zb4 => kernel_rfl)
  (case zb5 => kernel_rfl)
  (case zb6 => kernel_rfl)
  (case zb7 => kernel_rfl)
  (case zb8 => kernel_rfl)
  (case zb9 => kernel_rfl)
  (case zb10 => kernel_rfl)
  (case zb11 => kernel_rfl)
  (case zb12 => kernel_rfl)
  (case zc0 => kernel_rfl)
  (case zc1 => kernel_rfl)
  (case zc2 => kernel_rfl)
  (case zc3 => kernel_rfl)
  (case zc4 => kernel_rfl)
  (case zc5 => kernel_rfl)
  (case zc6 => kernel_rfl)
  (case zc7 => kernel_rfl)
  (case zc8 => kernel_rfl)
  (case na_NoKey => kernel_rfl)
  (case na_NoSigns => kernel_rfl)
  (case na_NoLetter => kernel_rfl)
  (case na_NoSize => kernel_rfl)
  (case na_NoCards => kernel_rfl)
  (case na_NoLines => kernel_rfl)
  (case na_Beyond => kernel_rfl)
  (case na_MendError => kernel_rfl)
  (case xe_NoKey => kernel_rfl)
  (case xe_NoSigns => kernel_rfl)
  (case xe_NoLetter => kernel_rfl)
  (case xe_NoSize => kernel_rfl)
  (case xe_NoCards => kernel_rfl)
  (case fa_least_between => kernel_rfl)
  (case fk_least_between => kernel_rfl)
  (case xk_NoCards_0 => kernel_rfl)
  (case xk_NoCards_1 => kernel_rfl)
  (case xk_NoCards_2 => kernel_rfl)
  (case xk_NoCards_3 => kernel_rfl)
  (case xk_NoCards_4 => kernel_rfl)
  (case xk_NoCards_5 => kernel_rfl)
  (case xz_NoCards_NoLetter => kernel_rfl)
  (case xk_NoKey_0 => kernel_rfl)
  (case xk_NoKey_1 => kernel_rfl)
  (case xk_NoKey_2 => kernel_rfl)
  (case xk_NoKey_3 => kernel_rfl)
  (case xk_NoKey_4 => kernel_rfl)
  (case xk_NoKey_5 => kernel_rfl)
  (case xz_NoKey_NoLetter => kernel_rfl)
  (case xk_NoLetter_0 => kernel_rfl)
  (case xk_NoLetter_1 => kernel_rfl)
  (case xk_NoLetter_2 => kernel_rfl)
  (case xk_NoLetter_3 => kernel_rfl)
  (case xk_NoLetter_4 => kernel_rfl)
  (case xk_NoLetter_5 => kernel_rfl)
  (case xz_NoLetter_NoLetter => kernel_rfl)
  (case xk_NoSigns_0 => kernel_rfl)
  (case xk_NoSigns_1 => kernel_rfl)
  (case xk_NoSigns_2 => kernel_rfl)
  (case xk_NoSigns_3 => kernel_rfl)
  (case xk_NoSigns_4 => kernel_rfl)
  (case xk_NoSigns_5 => kernel_rfl)
  (case xz_NoSigns_NoLetter => kernel_rfl)
  (case xk_NoSize_0 => kernel_rfl)
  (case xk_NoSize_1 => kernel_rfl)
  (case xk_NoSize_2 => kernel_rfl)
  (case xk_NoSize_3 => kernel_rfl)
  (case xk_NoSize_4 => kernel_rfl)
  (case xk_NoSize_5 => kernel_rfl)
  (case xz_NoSize_NoLetter => kernel_rfl)
  (case xz_NoCards_NoSigns => kernel_rfl)
  (case xz_NoKey_NoSigns => kernel_rfl)
  (case xz_NoLetter_NoSigns => kernel_rfl)
  (case xz_NoSigns_NoSigns => kernel_rfl)
  (case xz_NoSize_NoSigns => kernel_rfl)
  (case xz_NoCards_NoSize => kernel_rfl)
  (case xz_NoKey_NoSize => kernel_rfl)
  (case xz_NoLetter_NoSize => kernel_rfl)
  (case xz_NoSigns_NoSize => kernel_rfl)
  (case xz_NoSize_NoSize => kernel_rfl)
  (case xz_NoCards_NoKey => kernel_rfl)
  (case xz_NoKey_NoKey => kernel_rfl)
  (case xz_NoLetter_NoKey => kernel_rfl)
  (case xz_NoSigns_NoKey => kernel_rfl)
  (case xz_NoSize_NoKey => kernel_rfl)
  (case xz_NoCards_NoLines => kernel_rfl)
  (case xz_NoKey_NoLines => kernel_rfl)
  (case xz_NoLetter_NoLines => kernel_rfl)
  (case xz_NoSigns_NoLines => kernel_rfl)
  (case xz_NoSize_NoLines => kernel_rfl)
  (case xz_NoCards_Beyond => kernel_rfl)
  (case xz_NoKey_Beyond => kernel_rfl)
  (case xz_NoLetter_Beyond => kernel_rfl)
  (case xz_NoSigns_Beyond => kernel_rfl)
  (case xz_NoSize_Beyond => kernel_rfl)
  (case xz_NoCards_NoCards => kernel_rfl)
  (case xz_NoKey_NoCards => kernel_rfl)
  (case xz_NoLetter_NoCards => kernel_rfl)
  (case xz_NoSigns_NoCards => kernel_rfl)
  (case xz_NoSize_NoCards => kernel_rfl)
  (case xi_NoCards_ValueError => kernel_rfl)
  (case xi_NoKey_ValueError => kernel_rfl)
  (case xi_NoLetter_ValueError => kernel_rfl)
  (case xi_NoSigns_ValueError => kernel_rfl)
  (case xi_NoSize_ValueError => kernel_rfl)
  (case xm_NoCards_MendError => kernel_rfl)
  (case xm_NoKey_MendError => kernel_rfl)
  (case xm_NoLetter_MendError => kernel_rfl)
  (case xm_NoSigns_MendError => kernel_rfl)
  (case xm_NoSize_MendError => kernel_rfl)

