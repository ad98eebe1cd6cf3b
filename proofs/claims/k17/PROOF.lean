import PyProof.Rows.All
import Wide.All
import OpenK.AllK
import Wide.FinOn
import Lean
import PyProof.EqAt
import PyProof.EqKinds
import PyProof.TupleCall
import PySem.Challenge.RW_rollmend_k17_lines_refused
set_option genSizeOf false
-- CHANGE: your row's module here, as the last of these rows
set_option Elab.async false
set_option linter.all false
set_option maxRecDepth 100000
namespace L2
open PySem PySem.Spec PyProof.Rows

noncomputable abbrev Key := Sum Int Str
noncomputable def keyIs : Key → Value → Bool
  | .inl k, v => Value.isInt k v
  | .inr x, v => Value.isStrOf x v
noncomputable def keyH (w : World) : Key → Int
  | .inl k => hashInt k
  | .inr x => hashStr w x
theorem keyIs_shape : ∀ {k : Key} {v : Value}, keyIs k v = true → (∃ i t, k = Sum.inl i ∧ v = Value.int i t) ∨ (∃ x t, k = Sum.inr x ∧ v = Value.str x t)
  | .inl i, v, h => by
    obtain ⟨t, e⟩ := Value.isInt_shape (k := i) (v := v) h
    exact .inl ⟨i, t, rfl, e⟩
  | .inr x, v, h => by
    obtain ⟨t, e⟩ := Value.isStrOf_shape (x := x) (v := v) h
    exact .inr ⟨x, t, rfl, e⟩
theorem keyIs_int (i : Int) (t : Tok) : keyIs (.inl i) (.int i t) = true := by simp [keyIs, Value.isInt]
theorem keyIs_str (x : Str) (t : Tok) : keyIs (.inr x) (.str x t) = true := by simp [keyIs, Value.isStrOf]
theorem key_ll (a b : Int) : decide ((Sum.inl a : Key) = Sum.inl b) = (a == b) := by
  by_cases e : a = b
  · subst e; simp
  · have h : ¬ (Sum.inl a : Key) = Sum.inl b := fun q => e (Sum.inl.inj q)
    rw [decide_eq_false h]
    exact (beq_eq_false_iff_ne.mpr e).symm
theorem key_rr (a b : Str) : decide ((Sum.inr a : Key) = Sum.inr b) = decide (a = b) := by
  by_cases e : a = b
  · subst e; simp
  · have h : ¬ (Sum.inr a : Key) = Sum.inr b := fun q => e (Sum.inr.inj q)
    rw [decide_eq_false h, decide_eq_false e]
theorem key_lr (a : Int) (b : Str) : decide ((Sum.inl a : Key) = Sum.inr b) = false := decide_eq_false (fun q => nomatch q)
theorem key_rl (a : Str) (b : Int) : decide ((Sum.inr a : Key) = Sum.inl b) = false := decide_eq_false (fun q => nomatch q)

noncomputable def mixKind (prog : Program) (w : World) : PySem.KeyKind prog w Key where
  is := keyIs
  hash := keyH w
  inj := fun v a b ha hb => by
    rcases keyIs_shape ha with ⟨i, t, rfl, rfl⟩ | ⟨x, t, rfl, rfl⟩
    · rcases keyIs_shape hb with ⟨j, u, rfl, e⟩ | ⟨y, u, rfl, e⟩
      · injection e with e1 _; rw [e1]
      · exact nomatch e
    · rcases keyIs_shape hb with ⟨j, u, rfl, e⟩ | ⟨y, u, rfl, e⟩
      · exact nomatch e
      · injection e with e1 _; rw [e1]
  byValue := fun k v h => by
    rcases keyIs_shape h with ⟨i, t, rfl, rfl⟩ | ⟨x, t, rfl, rfl⟩ <;> rfl
  pyHash := fun hv h => by
    rcases keyIs_shape hv with ⟨i, t, rfl, rfl⟩ | ⟨x, t, rfl, rfl⟩
    · exact wpAny_pyHash_int h
    · exact wpAny_pyHash_str h
  eqBool := fun hu hv h => by
    rcases keyIs_shape hu with ⟨i, t, rfl, rfl⟩ | ⟨x, t, rfl, rfl⟩
    · rcases keyIs_shape hv with ⟨j, u, rfl, rfl⟩ | ⟨y, u, rfl, rfl⟩
      · rw [key_ll] at h; exact wpAny_eqBool_int h
      · rw [key_lr] at h; exact SeqAt.EqAt.int_str i t y u _ _ _ _ h
    · rcases keyIs_shape hv with ⟨j, u, rfl, rfl⟩ | ⟨y, u, rfl, rfl⟩
      · rw [key_rl] at h; exact SeqAt.EqAt.str_int x t j u _ _ _ _ h
      · rw [key_rr] at h; exact wpAny_eqBool_str h
  «strs» := fun k x t v h => by
    rcases keyIs_shape h with ⟨i, u, rfl, e⟩ | ⟨y, u, rfl, e⟩
    · exact nomatch e
    · injection e with e1 _
      subst e1
      cases v <;> rfl

theorem mixKind_int (prog : Program) (w : World) (i : Int) (t : Tok) : (mixKind prog w).is (.inl i) (.int i t) = true := keyIs_int i t
theorem mixKind_str (prog : Program) (w : World) (x : Str) (t : Tok) : (mixKind prog w).is (.inr x) (.str x t) = true := keyIs_str x t
end L2

namespace L2
open PySem PySem.Spec PyProof.Rows

inductive V where
  | non | bl (b : Bool) | int (i : Int) | str (x : Str) | byt (b : Array UInt8) | flt (b : UInt64) | ref (a : Addr) | ty (n : String)
  deriving DecidableEq

noncomputable def RelV : V → Value → Prop
  | .non, u => u = Value.none
  | .bl b, u => u = Value.bool b
  | .int i, u => ∃ t, u = Value.int i t
  | .str x, u => ∃ t, u = Value.str x t
  | .byt b, u => ∃ t, u = Value.bytes b t
  | .flt b, u => ∃ t, u = Value.float b t
  | .ref a, u => u = Value.ref a
  | .ty n, u => u = Value.type n

noncomputable abbrev Vals : List V → List Value → Prop := Paired RelV
theorem Vals.length {xs : List V} {us : List Value} (r : Vals xs us) : xs.length = us.length := Paired.length r
theorem Vals.get : ∀ {xs : List V} {us : List Value} {i : Nat} {x : V}, Vals xs us → xs[i]? = some x → ∃ u, us[i]? = some u ∧ RelV x u
  | _, _, _, _, .nil, e => by simp at e
  | _, _, 0, _, .cons r _, e => by simp at e; subst e; exact ⟨_, rfl, r⟩
  | _, _, i + 1, x, .cons _ t, e => by
    obtain ⟨u, h1, h2⟩ := Vals.get (i := i) (x := x) t (by simpa using e)
    exact ⟨u, by simpa using h1, h2⟩
theorem Vals.set {x : V} {u : Value} (r : RelV x u) : ∀ {xs : List V} {us : List Value} (i : Nat), Vals xs us → Vals (xs.set i x) (us.set i u)
  | _, _, _, .nil => .nil
  | _, _, 0, .cons _ t => .cons r t
  | _, _, i + 1, .cons q t => .cons q (Vals.set r i t)
theorem Vals.append : ∀ {xs ys : List V} {us ws : List Value}, Vals xs us → Vals ys ws → Vals (xs ++ ys) (us ++ ws)
  | _, _, _, _, .nil, s => s
  | _, _, _, _, .cons r t, s => .cons r (Vals.append t s)
theorem Vals.take : ∀ {xs : List V} {us : List Value} (n : Nat), Vals xs us → Vals (xs.take n) (us.take n)
  | _, _, 0, _ => .nil
  | _, _, _ + 1, .nil => .nil
  | _, _, n + 1, .cons r t => .cons r (Vals.take n t)
theorem Vals.drop : ∀ {xs : List V} {us : List Value} (n : Nat), Vals xs us → Vals (xs.drop n) (us.drop n)
  | _, _, 0, r => r
  | _, _, _ + 1, .nil => .nil
  | _, _, n + 1, .cons _ t => Vals.drop n t
noncomputable def RelO : Option V → Option Value → Prop
  | some v, some u => RelV v u
  | none, none => True
  | _, _ => False
noncomputable def KV {κ : Type} : List (κ × V) → List (κ × Value) → Prop := Paired fun (p : κ × V) (q : κ × Value) => p.1 = q.1 ∧ RelV p.2 q.2

noncomputable def kV : Key → V
  | .inl i => .int i
  | .inr x => .str x

inductive HO where
  /-- a list -/
  | lst (xs : List V)
  /-- a tuple (never changes) -/
  | tup (xs : List V)
  /-- a dict whose keys are ints and texts; one whose keys are tuples of ints and texts (the empty one is both) -/
  | dK (kvs : List (Key × V)) | dT (kvs : List (List Key × V))
  /-- a set of ints: its members, its size -/
  | set (S : Int → Bool) (n : Nat)
  /-- an instance of the class at C, its dict at dx, its attributes -/
  | ins (C dx : Addr) (fs : List (Str × V))
  /-- the dict of the instance at x -/
  | own (x : Addr)
  /-- the dict of an exception -/
  | xd (fs : List (Str × V))
  /-- a bound method, f of x -/
  | met (f x : Addr)
  /-- a range object lo, lo + 1, .. below hi -/
  | rng (lo hi : Int)
  /-- a thing that is known to the object (the script; a dict while a loop walks it): read, never written while it is so -/
  | frz (o : Obj) (u : HO)
  /-- a code object's table -/
  | tbl (ps : Array Value)
  /-- any other thing, by what is true of its one object (a def of one's own: SetO a S n := HO.ext fun h => ..) -/
  | ext (φ : Heap → Prop)

noncomputable abbrev Hp := Addr → Option HO
noncomputable def upd (H : Hp) (a : Addr) (o : HO) : Hp := fun b => if b = a then some o else H b
theorem upd_same {H : Hp} {a : Addr} {o : HO} : upd H a o a = some o := by unfold upd; rw [if_pos rfl]
theorem upd_ne {H : Hp} {a b : Addr} {o : HO} (h : b ≠ a) : upd H a o b = H b := by unfold upd; rw [if_neg h]
theorem ne_of_none {H : Hp} {a b : Addr} {o : HO} (h : H a = some o) (h' : H b = none) : a ≠ b := by
  intro e; subst e; rw [h] at h'; cases h'

section
variable (P : Program) (w : World)
noncomputable def ObjOk (H : Hp) (h : Heap) (a : Addr) : HO → Prop
  | .lst xs => xs.length ≤ sizeLine ∧ ∃ (its : List Value) (n : Nat), Vals xs its ∧ h.get? a = some { cls := .type "list", data := .seq its.toArray n }
  | .tup xs => xs.length ≤ sizeLine ∧ ∃ its : List Value, Vals xs its ∧ IsTup h a its.toArray
  | .dK kvs => kvs.length ≤ sizeLine ∧ (a == sysModules) = false ∧ ∃ vs, KV kvs vs ∧ h.DictOf (mixKind P w) a vs
  | .dT kvs => kvs.length ≤ sizeLine ∧ (a == sysModules) = false ∧ ∃ xs : List (List Key × Addr × Value),
      Paired (fun (p : List Key × V) (q : List Key × Addr × Value) => p.1 = q.1 ∧ H q.2.1 = some (.tup (p.1.map kV)) ∧ RelV p.2 q.2.2) kvs xs ∧
      ∃ o es ep, h.get? a = some o ∧ o.ExactDict ∧ o.data = .dict es ep ∧ es.toList = xs.map (entryOfKey (tupleKind (mixKind P w))) ∧ (xs.map (·.1)).Nodup
  | .set S n => h.SetOf (intKind P w) a S n
  | .ins C dx fs => H dx = some (.own a) ∧ fs.length ≤ 1000 ∧ dx ≠ a ∧ h.get? a = some (PySem.W.instObj C dx) ∧
      ∃ mA, h.Ns1 dx mA ∧ (∀ f, RelO (fs.lookup f) (mA f)) ∧ PySem.Within mA (fs.map (·.1))
  | .own _ => ∃ o, h.get? a = some o
  | .xd fs => ∃ mA, h.Ns1 a mA ∧ ∀ f, RelO (fs.lookup f) (mA f)
  | .rng lo hi => ∃ t u v, h.get? a = some { cls := .type "range", data := .fields #[.int lo t, .int hi u, .int 1 v] }
  | .frz o u => h.get? a = some o ∧ ObjOk H h a u
  | .tbl ps => h.get? a = some { cls := .none, data := .fields ps }
  | .met f x => h.get? a = some (PySem.W.methodObj (.ref f) (.ref x))
  | .ext φ => φ h ∧ (∃ o, h.get? a = some o) ∧ ∀ h1 h2 : Heap, φ h1 → (∀ o, h1.get? a = some o → h2.get? a = some o) → φ h2
noncomputable def HOk (H : Hp) (h : Heap) : Prop := ∀ a o, H a = some o → ObjOk P w H h a o
end

section
variable {P : Program} {w : World} {H H' : Hp} {h h' : Heap} {a : Addr} {o : HO}
theorem ObjOk.lt (x : ObjOk P w H h a o) : a < h.objs.size := by
  cases o with
  | lst xs => obtain ⟨_, _, _, _, e⟩ := x; exact Heap.lt_size e
  | tup xs => obtain ⟨_, _, _, p⟩ := x; exact p.lt
  | dK kvs => obtain ⟨_, _, _, _, o, _, _, e, _⟩ := x; exact Heap.lt_size e
  | dT kvs => obtain ⟨_, _, _, _, o, _, _, e, _⟩ := x; exact Heap.lt_size e
  | set S n => obtain ⟨o, _, _, _, e, _⟩ := x; exact Heap.lt_size e
  | ins C dx fs => obtain ⟨_, _, _, e, _⟩ := x; exact Heap.lt_size e
  | own y => obtain ⟨_, e⟩ := x; exact Heap.lt_size e
  | xd fs => obtain ⟨_, ⟨_, _, _, e, _⟩, _⟩ := x; exact Heap.lt_size e
  | rng lo hi => obtain ⟨_, _, _, e⟩ := x; exact Heap.lt_size e
  | frz ob u => obtain ⟨e, _⟩ := x; exact Heap.lt_size e
  | tbl ps => exact Heap.lt_size (show h.get? a = some _ from x)
  | met f y => exact Heap.lt_size (show h.get? a = some _ from x)
  | ext φ => obtain ⟨_, ⟨_, e⟩, _⟩ := x; exact Heap.lt_size e
theorem Paired.mapP {α β : Type} {F G : α → β → Prop} : ∀ {l₁ : List α} {l₂ : List β}, Paired F l₁ l₂ → (∀ a b, F a b → G a b) → Paired G l₁ l₂
  | _, _, .nil, _ => .nil
  | _, _, .cons r t, f => .cons (f _ _ r) (Paired.mapP t f)
theorem ObjOk.stay (x : ObjOk P w H h a o) (k : ∀ b u, (b = a ∨ H b = some (.own a)) → h.get? b = some u → h'.get? b = some u)
    (ho : ∀ b, H b = some (.own a) → H' b = some (.own a)) (ht : ∀ b xs, H b = some (.tup xs) → H' b = some (.tup xs)) : ObjOk P w H' h' a o := by
  induction o with
  | lst xs => obtain ⟨z, its, n, r, e⟩ := x; exact ⟨z, its, n, r, k _ _ (.inl rfl) e⟩
  | tup xs => obtain ⟨z, its, r, ob, e, c⟩ := x; exact ⟨z, its, r, ob, k _ _ (.inl rfl) e, c⟩
  | dK kvs => obtain ⟨z, y, vs, r, ob, es, ep, e, c⟩ := x; exact ⟨z, y, vs, r, ob, es, ep, k _ _ (.inl rfl) e, c⟩
  | dT kvs =>
    obtain ⟨z, y, xs, r, ob, es, ep, e, c⟩ := x
    exact ⟨z, y, xs, Paired.mapP r fun p q z => ⟨z.1, ht _ _ z.2.1, z.2.2⟩, ob, es, ep, k _ _ (.inl rfl) e, c⟩
  | set S n => obtain ⟨ob, es, ep, t, e, c⟩ := x; exact ⟨ob, es, ep, t, k _ _ (.inl rfl) e, c⟩
  | ins C dx fs =>
    obtain ⟨d, z, ne, e, mA, ⟨od, es, ep, e2, c⟩, r⟩ := x
    exact ⟨ho _ d, z, ne, k _ _ (.inl rfl) e, mA, ⟨od, es, ep, k _ _ (.inr d) e2, c⟩, r⟩
  | own y => obtain ⟨ob, e⟩ := x; exact ⟨ob, k _ _ (.inl rfl) e⟩
  | xd fs => obtain ⟨mA, ⟨od, es, ep, e, c⟩, r⟩ := x; exact ⟨mA, ⟨od, es, ep, k _ _ (.inl rfl) e, c⟩, r⟩
  | rng lo hi => obtain ⟨t, u, v, e⟩ := x; exact ⟨t, u, v, k _ _ (.inl rfl) e⟩
  | frz ob u ih => obtain ⟨e, q⟩ := x; exact ⟨k _ _ (.inl rfl) e, ih q⟩
  | tbl ps =>
    have e : h.get? a = some { cls := .none, data := .fields ps } := x
    show h'.get? a = some { cls := .none, data := .fields ps }
    exact k a _ (.inl rfl) e
  | met f y =>
    have e : h.get? a = some (PySem.W.methodObj (.ref f) (.ref y)) := x
    show h'.get? a = some (PySem.W.methodObj (.ref f) (.ref y))
    exact k a _ (.inl rfl) e
  | ext φ => obtain ⟨p, ⟨o, e⟩, st⟩ := x; exact ⟨st _ _ p fun o q => k _ _ (.inl rfl) q, ⟨o, k _ _ (.inl rfl) e⟩, st⟩
theorem HOk.lt (x : HOk P w H h) (e : H a = some o) : a < h.objs.size := (x a o e).lt
theorem HOk.fresh (x : HOk P w H h) (e : h.objs.size ≤ a) : H a = none := by
  cases q : H a with
  | none => rfl
  | some u => exact absurd (Nat.lt_of_lt_of_le (x.lt q) e) (Nat.lt_irrefl _)
theorem HOk.kept (x : HOk P w H h) (k : ∀ b u, h.get? b = some u → h'.get? b = some u) : HOk P w H h' := fun a o e =>
  (x a o e).stay (fun b u _ q => k b u q) (fun _ q => q) fun _ _ q => q
theorem HOk.laid (x : HOk P w H h) (k : ∀ b u, h.get? b = some u → h'.get? b = some u) (hp : h.objs.size ≤ a) (new : ObjOk P w (upd H a o) h' a o) : HOk P w (upd H a o) h' := fun b u e => by
  have hn := x.fresh hp
  by_cases hb : b = a
  · subst hb; rw [upd_same] at e; cases e; exact new
  · rw [upd_ne hb] at e
    exact (x b u e).stay (fun c v _ q => k c v q) (fun c q => by rw [upd_ne (ne_of_none q hn)]; exact q) fun c xs q => by rw [upd_ne (ne_of_none q hn)]; exact q
end

noncomputable def Rd (H : Hp) (a : Addr) (u : HO) : Prop := H a = some u ∨ ∃ o, H a = some (.frz o u)
theorem Rd.of {H : Hp} {a : Addr} {u : HO} (h : H a = some u) : Rd H a u := .inl h
theorem Rd.ok {P : Program} {w : World} {H : Hp} {h : Heap} {a : Addr} {u : HO} (r : Rd H a u) (x : HOk P w H h) : ObjOk P w H h a u := by
  rcases r with r | ⟨o, r⟩
  · exact x a u r
  · obtain ⟨_, q⟩ := x a _ r
    exact q
noncomputable def Mut : Option HO → Prop
  | some (.lst _) => True
  | some (.dK _) => True
  | some (.dT _) => True
  | some (.set _ _) => True
  | some (.ins _ _ _) => True
  | some (.ext _) => True
  | _ => False
section
variable {P : Program} {w : World} {H : Hp} {h h' : Heap} {x e : Addr} {o' : HO}
theorem HOk.write (ok : HOk P w H h) (mu : Mut (H x)) (he : e = x ∨ H e = some (.own x)) (k : ∀ b u, b ≠ e → h.get? b = some u → h'.get? b = some u) (heo : ∃ u, h'.get? e = some u)
    (new : ObjOk P w (upd H x o') h' x o') : HOk P w (upd H x o') h' := fun b u q => by
  have nown : ∀ c y, H c = some (.own y) → c ≠ x := fun c y r z => by subst z; rw [r] at mu; exact mu
  have ntup : ∀ c xs, H c = some (.tup xs) → c ≠ x := fun c xs r z => by subst z; rw [r] at mu; exact mu
  by_cases hb : b = x
  · subst hb; rw [upd_same] at q; cases q; exact new
  · rw [upd_ne hb] at q
    by_cases hbe : b = e
    · have q' : H b = some (.own x) := by
        rcases he with z | z
        · exact absurd (hbe.trans z) hb
        · rw [hbe]; exact z
      rw [q] at q'; cases q'
      obtain ⟨v, hv⟩ := heo
      exact ⟨v, by rw [hbe]; exact hv⟩
    · refine (ok b u q).stay (fun c v hc r => k c v ?_ r) (fun c r => by rw [upd_ne (nown c b r)]; exact r) fun c xs r => by rw [upd_ne (ntup c xs r)]; exact r
      rcases hc with rfl | hc
      · exact hbe
      · rintro rfl
        rcases he with z | z
        · exact nown c b hc z
        · rw [hc] at z; cases z; exact hb rfl
end

structure Un (fs ex : List Addr) (H H' : Hp) (h h' : Heap) : Prop where
  keep : ∀ b o, h.get? b = some o → H b = none → b ∉ fs → b ∉ ex → h'.get? b = some o
  slot : ∀ b o, h.get? b = some o → H b = none → b ∈ fs → b ∉ ex → ∃ sl, h'.get? b = some { o with slots := sl }
  free : ∀ b o, h.get? b = some o → H b = none → b ∉ ex → H' b = none
  there : ∀ b o, h.get? b = some o → b ∉ ex → ∃ o', h'.get? b = some o'
  tups : ∀ b xs, H b = some (.tup xs) → H' b = some (.tup xs)
  frzs : ∀ b o u, H b = some (.frz o u) → H' b = some (.frz o u)
  tbls : ∀ b ps, H b = some (.tbl ps) → ∃ more, H' b = some (.tbl (ps ++ more))
section
variable {fs fs' ex ex' : List Addr} {H H1 H2 : Hp} {h h1 h2 h' : Heap} {a x e : Addr} {o : HO}
theorem Un.any (u : Un fs ex H H1 h h1) {b : Addr} {ob : Obj} (q : h.get? b = some ob) (n : H b = none) (hx : b ∉ ex) : ∃ sl, h1.get? b = some { ob with slots := sl } := by
  by_cases hb : b ∈ fs
  · exact u.slot b ob q n hb hx
  · exact ⟨ob.slots, u.keep b ob q n hb hx⟩
theorem Un.trans (a : Un fs ex H H1 h h1) (b : Un fs ex H1 H2 h1 h2) : Un fs ex H H2 h h2 where
  keep := fun c ob q n hc hx => b.keep c ob (a.keep c ob q n hc hx) (a.free c ob q n hx) hc hx
  slot := fun c ob q n hc hx => by
    obtain ⟨sl, e1⟩ := a.slot c ob q n hc hx
    obtain ⟨sl', e2⟩ := b.slot c _ e1 (a.free c ob q n hx) hc hx
    exact ⟨sl', e2⟩
  free := fun c ob q n hx => by
    obtain ⟨o', e1⟩ := a.there c ob q hx
    exact b.free c o' e1 (a.free c ob q n hx) hx
  there := fun c ob q hx => by
    obtain ⟨o', e1⟩ := a.there c ob q hx
    exact b.there c o' e1 hx
  tups := fun c xs q => b.tups c xs (a.tups c xs q)
  frzs := fun c ob xs q => b.frzs c ob xs (a.frzs c ob xs q)
  tbls := fun c ps q => by
    obtain ⟨m1, e1⟩ := a.tbls c ps q
    obtain ⟨m2, e2⟩ := b.tbls c _ e1
    exact ⟨m1 ++ m2, by rw [e2, Array.append_assoc]⟩
theorem Un.kept (k : ∀ b u, h.get? b = some u → h'.get? b = some u) : Un fs ex H H h h' :=
  ⟨fun b ob q _ _ _ => k b ob q, fun b ob q _ _ _ => ⟨ob.slots, k b ob q⟩, fun _ _ _ n _ => n, fun b ob q _ => ⟨ob, k b ob q⟩, fun _ _ q => q, fun _ _ _ q => q, fun _ ps q => ⟨#[], by rw [q]; simp⟩⟩
theorem Un.refl : Un fs ex H H h h := Un.kept fun _ _ q => q
theorem Un.laid (k : ∀ b u, h.get? b = some u → h'.get? b = some u) (hp : h.objs.size ≤ a) (hn : H a = none) : Un fs ex H (upd H a o) h h' where
  keep := fun b u q _ _ _ => k b u q
  slot := fun b u q _ _ _ => ⟨u.slots, k b u q⟩
  free := fun b u q n _ => by rw [upd_ne (Nat.ne_of_lt (Nat.lt_of_lt_of_le (Heap.lt_size q) hp))]; exact n
  there := fun b u q _ => ⟨u, k b u q⟩
  tups := fun b xs q => by rw [upd_ne (ne_of_none q hn)]; exact q
  frzs := fun b u xs q => by rw [upd_ne (ne_of_none q hn)]; exact q
  tbls := fun b ps q => ⟨#[], by rw [upd_ne (ne_of_none q hn), q]; simp⟩
theorem Un.write (mu : Mut (H x)) (he : e = x ∨ H e = some (.own x)) (k : ∀ b u, b ≠ e → h.get? b = some u → h'.get? b = some u) (heo : ∃ u, h'.get? e = some u) : Un fs ex H (upd H x o) h h' := by
  have hx : ∀ b, H b = none → b ≠ x := fun b n z => by subst z; rw [n] at mu; exact mu
  have hb : ∀ b, H b = none → b ≠ e := fun b n z => by
    subst z
    rcases he with r | r
    · exact hx b n r
    · rw [n] at r; cases r
  have hm : ∀ b u, H b = some u → ¬ Mut (some u) → b ≠ x := fun b u q nm z => by subst z; rw [q] at mu; exact nm mu
  refine ⟨fun b u q n _ _ => k b u (hb b n) q, fun b u q n _ _ => ⟨u.slots, k b u (hb b n) q⟩, fun b u q n _ => by rw [upd_ne (hx b n)]; exact n, fun b u q _ => ?_,
    fun b xs q => by rw [upd_ne (hm b _ q fun z => z)]; exact q, fun b u xs q => by rw [upd_ne (hm b _ q fun z => z)]; exact q, fun b ps q => ⟨#[], by rw [upd_ne (hm b _ q fun z => z), q]; simp⟩⟩
  by_cases hbe : b = e
  · subst hbe; exact heo
  · exact ⟨u, k b u hbe q⟩
theorem Un.mono (u : Un fs ex H H1 h h1) (hs : ∀ b ∈ fs, b ∈ fs') (hx : ∀ b ∈ ex, b ∈ ex') : Un fs' ex' H H1 h h1 :=
  ⟨fun b ob q n hb he => u.keep b ob q n (fun z => hb (hs b z)) fun z => he (hx b z), fun _ _ q n _ he => u.any q n fun z => he (hx _ z), fun b ob q n he => u.free b ob q n fun z => he (hx b z), fun b ob q he => u.there b ob q fun z => he (hx b z), u.tups, u.frzs, u.tbls⟩
end

noncomputable def trk (h : Heap) (H : Hp) : List Addr := (List.range h.objs.size).filter fun a => (H a).isSome
noncomputable def hidT (h : Heap) (H : Hp) : Heap := PySem.W.hideAll h (trk h H)
theorem hidT_size (h : Heap) (H : Hp) : (hidT h H).objs.size = h.objs.size := PySem.W.hideAll_size _ _
theorem hidT_get {h : Heap} {H : Hp} {b : Addr} {o : Obj} (e : h.get? b = some o) (n : H b = none) : (hidT h H).get? b = some o :=
  PySem.W.hideAll_get _ e fun hm => by
    have q : (H b).isSome = true := (List.mem_filter.mp hm).2
    rw [n] at q; simp at q
theorem of_hidT {h : Heap} {H : Hp} {b : Addr} {o : Obj} (e : (hidT h H).get? b = some o) : h.get? b = some o ∧ H b = none := by
  have e' : h.get? b = some o := PySem.W.of_hideAll (trk h H) e
  refine ⟨e', ?_⟩
  cases q : H b with
  | none => rfl
  | some x =>
    have hm : b ∈ trk h H := List.mem_filter.mpr ⟨List.mem_range.mpr (Heap.lt_size e'), by simp [q]⟩
    have z : (hidT h H).get? b = none := PySem.W.hideAll_none (trk h H) hm
    rw [z] at e; cases e

noncomputable def allNews (g h : Heap) (L : Addr) : List (Addr × Obj) := (List.range h.objs.size).filterMap fun a => if a = L ∨ (g.get? a).isSome = true then none else (h.get? a).map fun o => (a, o)
noncomputable def rest (g h : Heap) (L d : Addr) : List (Addr × Obj) := (allNews g h L).filter fun p => decide (p.1 ≠ d)
end L2

namespace L2
open PySem PySem.Spec PyProof.Rows

structure Mod (K : PySem.W.Frag) (mg : Str → Option Value) (base : Heap) : Prop where
  kin : K.In base
  glob : base.Ns mainGlobals mg
  blt : ∃ mb, base.Ns builtinsNs mb ∧ ∀ x : Str, x ≠ "__name__" → mb x = bootBuiltins x
  nolimit : base.NoLimit

structure Cx where
  prog : Program
  w : World
  K : PySem.W.Frag
  mg : Str → Option Value
  base : Heap
  A : Around
  N : List Str
  s₀ : Shared
  H₀ : Hp
  env : Env
  outer : List Env
  stack : List Env
  ex : List Addr
  fn : Str → Bool
  calm : Bool
  pn : List (Addr × Obj)
  xe : Value → Shared → Prop
noncomputable def frs (l : List Env) : List Addr := l.filterMap (·.frame)
noncomputable abbrev Cx.fs (X : Cx) : List Addr := frs X.outer

noncomputable def Vis (sc : Scope) (x : Str) : Prop := sc.names.lookup x = some .local ∨ sc.names.lookup x = some .cell ∨ sc.names.lookup x = some .free
noncomputable def Loc (sc : Scope) (x : Str) : Prop := sc.names.lookup x = some .local ∨ sc.names.lookup x = some .cell
noncomputable def Look (env : Env) (h : Heap) (m : Str → Option Value) (x : Str) (u : Value) : Prop :=
  (env.kindOf x = some .local ∧ m x = some u) ∨ ((env.kindOf x = some .cell ∨ env.kindOf x = some .free) ∧ ∃ c, env.cells.lookup x = some c ∧ h.IsCell c (some u))

structure Cx.Ok (X : Cx) : Prop where
  mod : Mod X.K X.mg X.base
  kind : X.env.scope.kind = .function
  glob : X.env.globals = mainGlobals
  blt : X.env.builtins = builtinsNs
  above : X.s₀.heap.objs.size ≤ X.env.locals
  inj : ∀ x y c, X.env.cells.lookup x = some c → X.env.cells.lookup y = some c → x = y
  has : ∀ x, (X.env.kindOf x = some .cell ∨ X.env.kindOf x = some .free) → ∃ c, X.env.cells.lookup x = some c
  cab : ∀ x c, X.fn x = true → X.env.cells.lookup x = some c → X.s₀.heap.objs.size ≤ c
  hd : X.calm = true → X.A.handled = none
  frames : X.A.frames = some X.stack
  stk : X.stack = X.outer ∨ (X.stack = X.env :: X.outer ∧ X.env.frame = some X.env.locals)
  exf : ∀ b ∈ X.ex, b ≠ X.env.locals ∧ ∀ x c, X.env.cells.lookup x = some c → c ≠ b
  bs : ∀ b o, X.base.get? b = some o → X.s₀.heap.get? b = some o ∧ X.H₀ b = none
  bsz : X.base.objs.size ≤ X.s₀.heap.objs.size
  noex : ∀ b o, X.base.get? b = some o → b ∉ X.ex
  exfs : ∀ b ∈ X.ex, b ∉ X.fs
  funs : X.s₀.heap.FunFrames X.base X.outer
  frf : ∀ b ∈ X.fs, X.H₀ b = none

structure Inv (X : Cx) (pins : List (Addr × Obj)) (σ : List (Option V)) (H : Hp) (s : Shared) : Prop where
  ok : X.Ok
  os : s.os = X.s₀.os
  bare : AllBare s.gens
  base : Un X.fs X.ex X.H₀ H X.s₀.heap s.heap
  loc : ∃ m, s.heap.Ns X.env.locals m ∧ ∀ (i : Nat) (x : Str) (v : V), X.N[i]? = some x → σ[i]? = some (some v) → Vis X.env.scope x → ∃ u, RelV v u ∧ Look X.env s.heap m x u
  cell : ∀ x c, X.env.cells.lookup x = some c → ∃ v, s.heap.IsCell c v
  free : H X.env.locals = none
  freeC : ∀ x c, X.env.cells.lookup x = some c → H c = none
  pin : ∀ p ∈ X.pn ++ pins, s.heap.get? p.1 = some p.2 ∧ H p.1 = none ∧ p.1 ≠ X.env.locals ∧ p.1 ∉ X.fs ∧ ∀ v, p.2.data ≠ .cell v
  hok : HOk X.prog X.w H s.heap
  len : σ.length = X.N.length

section
variable {X : Cx} {pins : List (Addr × Obj)} {σ : List (Option V)} {H H' : Hp} {s : Shared} {h' : Heap}

theorem Cx.Ok.nofr (ok : X.Ok) {b : Addr} {o : Obj} (e : X.base.get? b = some o) : b ∉ X.fs := fun hb => by
  have := (ok.funs.mem hb).1
  rw [e] at this; cases this
theorem Inv.bs (I : Inv X pins σ H s) : ∀ b o, X.base.get? b = some o → s.heap.get? b = some o ∧ H b = none := fun b o e =>
  ⟨I.base.keep b o (I.ok.bs b o e).1 (I.ok.bs b o e).2 (I.ok.nofr e) (I.ok.noex b o e), I.base.free b o (I.ok.bs b o e).1 (I.ok.bs b o e).2 (I.ok.noex b o e)⟩
theorem Inv.bk (I : Inv X pins σ H s) : ∀ b o, X.base.get? b = some o → s.heap.get? b = some o := fun b o e => (I.bs b o e).1
theorem Inv.mod (I : Inv X pins σ H s) : Mod X.K X.mg X.base := I.ok.mod
theorem Inv.kIn (I : Inv X pins σ H s) : X.K.In s.heap := I.ok.mod.kin.keeps I.bk
theorem Inv.nolimit (I : Inv X pins σ H s) : s.heap.NoLimit := I.ok.mod.nolimit.keeps I.bk
theorem Inv.fr (I : Inv X pins σ H s) : ∃ m, Fr X.base X.env.locals s.heap m :=
  let ⟨m, hn, _⟩ := I.loc
  ⟨m, hn, I.bk, Nat.le_trans I.ok.bsz I.ok.above⟩
theorem Inv.lt (I : Inv X pins σ H s) : X.env.locals < s.heap.objs.size := let ⟨_, hn, _⟩ := I.loc; hn.lt
theorem Inv.sz (I : Inv X pins σ H s) : X.s₀.heap.objs.size ≤ s.heap.objs.size := Nat.le_trans I.ok.above (Nat.le_of_lt I.lt)
theorem Inv.nofs (I : Inv X pins σ H s) {a : Addr} (h : s.heap.objs.size ≤ a) : a ∉ X.fs := fun hb => by
  obtain ⟨_, o, ho, _⟩ := I.ok.funs.mem hb
  exact absurd (Nat.lt_of_lt_of_le (Heap.lt_size ho) (Nat.le_trans I.sz h)) (Nat.lt_irrefl _)
theorem Inv.cne (I : Inv X pins σ H s) : ∀ x c, X.env.cells.lookup x = some c → c ≠ X.env.locals := fun x c e z => by
  obtain ⟨v, o, ho, hd⟩ := I.cell x c e
  obtain ⟨m, ⟨o', es, ep, ho', hd', _⟩, _⟩ := I.loc
  rw [z, ho'] at ho; cases ho; rw [hd'] at hd; cases hd
theorem Inv.funs (I : Inv X pins σ H s) : s.heap.FunFrames X.base X.outer := by
  have all : ∀ (l : List Env), (∀ b ∈ frs l, b ∈ X.fs) → X.s₀.heap.FunFrames X.base l → s.heap.FunFrames X.base l := by
    intro l
    induction l with
    | nil => intro _ _; trivial
    | cons env r ih =>
      intro hs hl
      obtain ⟨hk, ⟨L, o, hf, hn, ho, hd⟩, hr⟩ := hl
      have hL : L ∈ X.fs := hs L (by unfold frs; rw [List.filterMap_cons, hf]; exact List.mem_cons_self)
      obtain ⟨sl, e⟩ := I.base.slot L o ho (I.ok.frf L hL) hL fun z => I.ok.exfs L z hL
      exact ⟨hk, ⟨L, _, hf, hn, e, hd⟩, ih (fun b hb => hs b (by unfold frs; rw [List.filterMap_cons, hf]; exact List.mem_cons_of_mem _ hb)) hr⟩
  exact all X.outer (fun _ hb => hb) I.ok.funs

theorem Inv.stack (I : Inv X pins σ H s) : s.heap.FunFrames X.base X.stack := by
  rcases I.ok.stk with e | ⟨e, hf⟩
  · rw [e]; exact I.funs
  · rw [e]
    obtain ⟨m, hn, _⟩ := I.loc
    refine .cons (by rw [I.ok.kind]; decide) hf hn ?_ I.funs
    exact Heap.get?_none_of_le (Nat.le_trans I.ok.bsz I.ok.above)
theorem Inv.stkSub (I : Inv X pins σ H s) : ∀ b ∈ frs X.stack, b ∈ X.env.locals :: X.fs := fun b hb => by
  rcases I.ok.stk with e | ⟨e, hf⟩
  · rw [e] at hb; exact List.mem_cons_of_mem _ hb
  · rw [e] at hb
    unfold frs at hb
    rw [List.filterMap_cons, hf] at hb
    exact hb
theorem Inv.stkFree (I : Inv X pins σ H s) : ∀ b ∈ frs X.stack, H b = none := fun b hb => by
  rcases List.mem_cons.mp (I.stkSub b hb) with e | hb
  · rw [e]; exact I.free
  · obtain ⟨_, o, ho, _⟩ := I.ok.funs.mem hb
    exact I.base.free b o ho (I.ok.frf b hb) fun z => I.ok.exfs b z hb

theorem Inv.step {g' : Array GenState} {t' : Nat} {d' : Drawn} {ch : List Addr} (I : Inv X pins σ H s)
    (hch : ∀ b ∈ ch, (b ∈ X.ex ∨ X.s₀.heap.objs.size ≤ b) ∧ b ≠ X.env.locals ∧ (∀ x c, X.env.cells.lookup x = some c → c ≠ b) ∧ ∀ p ∈ X.pn ++ pins, p.1 ≠ b)
    (keep : ∀ b o, b ≠ X.env.locals → b ∉ X.fs → b ∉ ch → s.heap.get? b = some o → H b = none → h'.get? b = some o)
    (slot : ∀ b o, b ≠ X.env.locals → b ∈ X.fs → b ∉ ch → s.heap.get? b = some o → H b = none → ∃ sl, h'.get? b = some { o with slots := sl }) (free : ∀ b o, b ∉ ch → s.heap.get? b = some o → H b = none → H' b = none)
    (there : ∀ b o, b ∉ ch → s.heap.get? b = some o → ∃ o', h'.get? b = some o')
    (tups : ∀ b xs, H b = some (.tup xs) → H' b = some (.tup xs)) (frzs : ∀ b o u, H b = some (.frz o u) → H' b = some (.frz o u)) (tbls : ∀ b ps, H b = some (.tbl ps) → ∃ more, H' b = some (.tbl (ps ++ more)))
    (ns : ∀ m, s.heap.Ns X.env.locals m → h'.Ns X.env.locals m) (hok : HOk X.prog X.w H' h') (hg : AllBare g') :
    Inv X pins σ H' { s with heap := h', gens := g', drawn := d', toks := t' } := by
  have neL : ∀ b o, X.s₀.heap.get? b = some o → b ≠ X.env.locals := fun b o e => Nat.ne_of_lt (Nat.lt_of_lt_of_le (Heap.lt_size e) I.ok.above)
  have neC : ∀ b o, X.s₀.heap.get? b = some o → b ∉ X.ex → b ∉ ch := fun b o e hx hb => by
    rcases (hch b hb).1 with z | z
    · exact hx z
    · exact absurd (Nat.lt_of_lt_of_le (Heap.lt_size e) z) (Nat.lt_irrefl _)
  have cellK : ∀ x c, X.env.cells.lookup x = some c → ∀ v, s.heap.IsCell c v → h'.IsCell c v := fun x c e v ⟨o, ho, hd⟩ => by
    have nch : c ∉ ch := fun z => (hch c z).2.2.1 x c e rfl
    by_cases hc : c ∈ X.fs
    · obtain ⟨sl, q⟩ := slot c o (I.cne x c e) hc nch ho (I.freeC x c e)
      exact ⟨_, q, hd⟩
    · exact ⟨o, keep c o (I.cne x c e) hc nch ho (I.freeC x c e), hd⟩
  refine ⟨I.ok, I.os, hg, ⟨fun b o e n hb hx => ?_, fun b o e n hb hx => ?_, fun b o e n hx => ?_, fun b o e hx => ?_, fun b xs e => tups b xs (I.base.tups b xs e), fun b o xs e => frzs b o xs (I.base.frzs b o xs e), fun b ps e => ?_⟩, ?_, fun x c e => ?_, ?_, fun x c e => ?_, fun p hp => ?_, hok, I.len⟩
  · exact keep b o (neL b o e) hb (neC b o e hx) (I.base.keep b o e n hb hx) (I.base.free b o e n hx)
  · obtain ⟨sl, e1⟩ := I.base.slot b o e n hb hx
    obtain ⟨sl', e2⟩ := slot b _ (neL b o e) hb (neC b o e hx) e1 (I.base.free b o e n hx)
    exact ⟨sl', e2⟩
  · obtain ⟨o', e1⟩ := I.base.there b o e hx
    exact free b o' (neC b o e hx) e1 (I.base.free b o e n hx)
  · obtain ⟨o', e1⟩ := I.base.there b o e hx
    exact there b o' (neC b o e hx) e1
  · obtain ⟨m1, e1⟩ := I.base.tbls b ps e
    obtain ⟨m2, e2⟩ := tbls b _ e1
    exact ⟨m1 ++ m2, by rw [e2, Array.append_assoc]⟩
  · obtain ⟨m, hn, hl⟩ := I.loc
    refine ⟨m, ns m hn, fun i x v e1 e2 e3 => ?_⟩
    obtain ⟨u, r, l⟩ := hl i x v e1 e2 e3
    refine ⟨u, r, ?_⟩
    rcases l with l | ⟨k, c, e, z⟩
    · exact .inl l
    · exact .inr ⟨k, c, e, cellK x c e _ z⟩
  · obtain ⟨v, z⟩ := I.cell x c e
    exact ⟨v, cellK x c e v z⟩
  · obtain ⟨m, ⟨o, _, _, ho, _⟩, _⟩ := I.loc
    exact free _ o (fun z => (hch _ z).2.1 rfl) ho I.free
  · obtain ⟨v, o, ho, hd⟩ := I.cell x c e
    exact free c o (fun z => (hch c z).2.2.1 x c e rfl) ho (I.freeC x c e)
  · obtain ⟨e, n, ne, nf, d⟩ := I.pin p hp
    have nch : p.1 ∉ ch := fun z => (hch p.1 z).2.2.2 p hp rfl
    exact ⟨keep p.1 p.2 ne nf nch e n, free p.1 p.2 nch e n, ne, nf, d⟩
theorem Inv.un {t' : Nat} (I : Inv X pins σ H s) (u : Un X.fs [] H H' s.heap h') (hok : HOk X.prog X.w H' h') : Inv X pins σ H' { s with heap := h', toks := t' } := by
  obtain ⟨m, ⟨o, es, ep, ho, r⟩, _⟩ := id I.loc
  obtain ⟨sl, hL⟩ := u.any ho I.free (by simp)
  exact I.step (g' := s.gens) (d' := s.drawn) (ch := []) (fun _ z => nomatch z) (fun b o _ hb _ e n => u.keep b o e n hb (by simp)) (fun b o _ hb _ e n => u.slot b o e n hb (by simp)) (fun b o _ e n => u.free b o e n (by simp)) (fun b o _ e => u.there b o e (by simp)) u.tups u.frzs u.tbls (fun m' hm => by
    obtain ⟨o', es', ep', ho', r'⟩ := hm
    rw [ho] at ho'; cases ho'
    exact ⟨_, es', ep', hL, r'⟩) hok I.bare
theorem Inv.call {g' : Array GenState} {t' : Nat} {d' : Drawn} {ch : List Addr} (I : Inv X pins σ H s) (u : Un (frs X.stack) ch H H' s.heap h') (hok : HOk X.prog X.w H' h') (hg : AllBare g')
    (hch : ∀ b ∈ ch, (b ∈ X.ex ∨ X.s₀.heap.objs.size ≤ b) ∧ b ≠ X.env.locals ∧ (∀ x c, X.env.cells.lookup x = some c → c ≠ b) ∧ ∀ p ∈ X.pn ++ pins, p.1 ≠ b) :
    Inv X pins σ H' { s with heap := h', gens := g', drawn := d', toks := t' } := by
  obtain ⟨m, ⟨o, es, ep, ho, r⟩, _⟩ := id I.loc
  obtain ⟨sl, hL⟩ := u.any ho I.free fun z => (hch _ z).2.1 rfl
  exact I.step (ch := ch) hch (fun b o hL hb hc e n => u.keep b o e n (fun z => (List.mem_cons.mp (I.stkSub b z)).elim hL hb) hc) (fun b o _ _ hc e n => u.any e n hc) (fun b o hc e n => u.free b o e n hc) (fun b o hc e => u.there b o e hc) u.tups u.frzs u.tbls (fun m' hm => by
    obtain ⟨o', es', ep', ho', r'⟩ := hm
    rw [ho] at ho'; cases ho'
    exact ⟨_, es', ep', hL, r'⟩) hok hg
theorem Inv.turned {t' : Nat} {it : Addr} (I : Inv X pins σ H s) (k : ∀ b o, b ≠ it → s.heap.get? b = some o → h'.get? b = some o) (hn : H it = none) (hL : it ≠ X.env.locals)
    (h1 : it ∈ X.ex ∨ X.s₀.heap.objs.size ≤ it) (h2 : ∀ x c, X.env.cells.lookup x = some c → c ≠ it) (h3 : ∀ p ∈ X.pn ++ pins, p.1 ≠ it) : Inv X pins σ H { s with heap := h', toks := t' } := by
  have nit : ∀ b u, H b = some u → b ≠ it := fun b u e z => by rw [z, hn] at e; cases e
  refine I.step (g' := s.gens) (d' := s.drawn) (ch := [it]) (fun b hb => ?_) (fun b o _ _ hc e _ => k b o (fun z => hc (by simp [z])) e) (fun b o _ _ hc e _ => ⟨o.slots, k b o (fun z => hc (by simp [z])) e⟩) (fun _ _ _ _ n => n)
    (fun b o hc e => ⟨o, k b o (fun z => hc (by simp [z])) e⟩) (fun _ _ e => e) (fun _ _ _ e => e) (fun b ps e => ⟨#[], by rw [e]; simp⟩) (fun m hm => ?_) (fun b u e => ?_) I.bare
  · have e : b = it := by simpa using hb
    subst e
    exact ⟨h1, hL, h2, h3⟩
  · obtain ⟨o, es, ep, ho, r⟩ := hm
    exact ⟨o, es, ep, k _ o (Ne.symm hL) ho, r⟩
  · refine (I.hok b u e).stay (fun c v hc q => k c v ?_ q) (fun _ q => q) fun _ _ q => q
    rcases hc with z | z
    · rw [z]; exact nit b u e
    · exact nit c _ z
theorem Inv.tok (I : Inv X pins σ H s) (t : Nat) : Inv X pins σ H { s with toks := t } := I.un (h' := s.heap) (t' := t) Un.refl I.hok
theorem Inv.kept {t' : Nat} (I : Inv X pins σ H s) (k : ∀ b u, s.heap.get? b = some u → h'.get? b = some u) : Inv X pins σ H { s with heap := h', toks := t' } := I.un (Un.kept k) (I.hok.kept k)
theorem Inv.laid {a : Addr} {o : HO} {t' : Nat} (I : Inv X pins σ H s) (k : ∀ b u, s.heap.get? b = some u → h'.get? b = some u) (hp : s.heap.objs.size ≤ a) (new : ObjOk X.prog X.w (upd H a o) h' a o) :
    Inv X pins σ (upd H a o) { s with heap := h', toks := t' } := I.un (Un.laid k hp (I.hok.fresh hp)) (I.hok.laid k hp new)
theorem Inv.write {x e : Addr} {o : HO} {t' : Nat} (I : Inv X pins σ H s) (mu : Mut (H x)) (he : e = x ∨ H e = some (.own x)) (k : ∀ b u, b ≠ e → s.heap.get? b = some u → h'.get? b = some u) (heo : ∃ u, h'.get? e = some u)
    (new : ObjOk X.prog X.w (upd H x o) h' x o) : Inv X pins σ (upd H x o) { s with heap := h', toks := t' } := I.un (Un.write mu he k heo) (I.hok.write mu he k heo new)
theorem Inv.pins_of {pins' : List (Addr × Obj)} (I : Inv X pins σ H s) (h : ∀ p ∈ pins', s.heap.get? p.1 = some p.2 ∧ H p.1 = none ∧ p.1 ≠ X.env.locals ∧ p.1 ∉ X.fs ∧ ∀ v, p.2.data ≠ .cell v) : Inv X pins' σ H s :=
  ⟨I.ok, I.os, I.bare, I.base, I.loc, I.cell, I.free, I.freeC, fun p hp => (List.mem_append.mp hp).elim (fun z => I.pin p (List.mem_append_left _ z)) (h p), I.hok, I.len⟩

theorem nodup_ix {N : List Str} (hN : N.Nodup) {i j : Nat} {x : Str} (a : N[i]? = some x) (b : N[j]? = some x) : i = j := by
  obtain ⟨h1, e1⟩ := List.getElem?_eq_some_iff.mp a
  obtain ⟨h2, e2⟩ := List.getElem?_eq_some_iff.mp b
  exact (List.getElem_inj hN).mp (e1.trans e2.symm)

theorem store_ok2 {M : Model} {A : Around} {E : Value → Shared → Prop} {i : Nat} {x : Str} {v : V} {u : Value} {Q : Unit → Shared → Prop} (I : Inv X pins σ H s) (hN : X.N.Nodup) (hi : X.N[i]? = some x) (hx : Loc X.env.scope x) (r : RelV v u)
    (h : ∀ s', Inv X pins (σ.set i (some v)) H s' → (∃ a, Heap.SameBut a s.heap s'.heap ∧ (a = X.env.locals ∨ X.env.cells.lookup x = some a)) → Q () s') (hf : X.fn x = true ∨ X.env.scope.names.lookup x = some .local := by first | exact .inl rfl | exact .inr rfl | assumption) : wpAny M A (storeName X.env x u) Q E s := by
  obtain ⟨m, hn, hl⟩ := id I.loc
  have hcls : (X.env.scope.kind == .class || (X.env.scope.kind == .module && X.env.locals != X.env.globals)) = false := by rw [I.ok.kind]; rfl
  have hiσ : i < σ.length := by rw [I.len]; exact (List.getElem?_eq_some_iff.mp hi).1
  have cne := I.cne
  have tracked : ∀ {a : Addr} {h' : Heap}, (∃ o, s.heap.get? a = some o ∧ H a = none) → Heap.SameBut a s.heap h' → HOk X.prog X.w H h' := fun {a h'} ha hs b ob e => by
    obtain ⟨_, _, hfree⟩ := ha
    refine (I.hok b ob e).stay (fun c w' hc q => (hs.2 c ?_).trans q) (fun _ q => q) fun _ _ q => q
    rintro rfl
    rcases hc with rfl | hc
    · rw [hfree] at e; cases e
    · rw [hfree] at hc; cases hc
  rcases hx with hk | hk
  · refine wpAny_storeName_local hk hn (fun h' hn' hs => ?_) hcls
    obtain ⟨oL, _, _, hoL, _⟩ := id hn
    refine h _ ⟨I.ok, I.os, I.bare, ⟨fun b o e n hb hx => ?_, fun b o e n hb hx => ?_, I.base.free, fun b o e hx => ?_, I.base.tups, I.base.frzs, I.base.tbls⟩, ⟨_, hn', fun j y v' e1 e2 e3 => ?_⟩, fun y c e => ?_, I.free, I.freeC, fun p hp => ?_, tracked ⟨oL, hoL, I.free⟩ hs, by simpa using I.len⟩ ⟨_, hs, .inl rfl⟩
    · exact (hs.2 b (Nat.ne_of_lt (Nat.lt_of_lt_of_le (Heap.lt_size e) I.ok.above))).trans (I.base.keep b o e n hb hx)
    · obtain ⟨sl, e1⟩ := I.base.slot b o e n hb hx
      exact ⟨sl, (hs.2 b (Nat.ne_of_lt (Nat.lt_of_lt_of_le (Heap.lt_size e) I.ok.above))).trans e1⟩
    · obtain ⟨o', e1⟩ := I.base.there b o e hx
      exact ⟨o', (hs.2 b (Nat.ne_of_lt (Nat.lt_of_lt_of_le (Heap.lt_size e) I.ok.above))).trans e1⟩
    · by_cases hj : j = i
      · subst hj
        rw [hi] at e1; cases e1
        rw [List.getElem?_set_self hiσ] at e2
        cases e2
        exact ⟨u, r, .inl ⟨hk, by simp⟩⟩
      · rw [List.getElem?_set_ne (Ne.symm hj)] at e2
        obtain ⟨u', r', q⟩ := hl j y v' e1 e2 e3
        refine ⟨u', r', ?_⟩
        rcases q with ⟨k, e⟩ | ⟨k, c, e, z⟩
        · refine .inl ⟨k, ?_⟩
          have : y ≠ x := fun e => hj (nodup_ix hN e1 (e ▸ hi))
          simp [this, e]
        · exact .inr ⟨k, c, e, z.sameBut hs (cne y c e)⟩
    · obtain ⟨w', z⟩ := I.cell y c e
      exact ⟨w', z.sameBut hs (cne y c e)⟩
    · obtain ⟨e, n, ne, nf, d⟩ := I.pin p hp
      exact ⟨(hs.2 p.1 ne).trans e, n, ne, nf, d⟩
  · have hfn : X.fn x = true := by
      rcases hf with z | z
      · exact z
      · rw [z] at hk; cases hk
    obtain ⟨c, hc⟩ := I.ok.has x (.inl hk)
    obtain ⟨w', z⟩ := I.cell x c hc
    refine wpAny_storeName_cell I.ok.kind hk hc z (fun h' hc' hs => ?_)
    obtain ⟨oc, hoc, hocd⟩ := id z
    refine h { s with heap := h' } ⟨I.ok, I.os, I.bare, ⟨fun b o e n hb hx => ?_, fun b o e n hb hx => ?_, I.base.free, fun b o e hx => ?_, I.base.tups, I.base.frzs, I.base.tbls⟩, ⟨m, hn.sameBut hs (Ne.symm (cne x c hc)), fun j y v' e1 e2 e3 => ?_⟩, fun y c' e => ?_, I.free, I.freeC, fun p hp => ?_, tracked ⟨oc, hoc, I.freeC x c hc⟩ hs, by simpa using I.len⟩ ⟨c, hs, .inr hc⟩
    · exact (hs.2 b (Nat.ne_of_lt (Nat.lt_of_lt_of_le (Heap.lt_size e) (I.ok.cab x c hfn hc)))).trans (I.base.keep b o e n hb hx)
    · obtain ⟨sl, e1⟩ := I.base.slot b o e n hb hx
      exact ⟨sl, (hs.2 b (Nat.ne_of_lt (Nat.lt_of_lt_of_le (Heap.lt_size e) (I.ok.cab x c hfn hc)))).trans e1⟩
    · obtain ⟨o', e1⟩ := I.base.there b o e hx
      exact ⟨o', (hs.2 b (Nat.ne_of_lt (Nat.lt_of_lt_of_le (Heap.lt_size e) (I.ok.cab x c hfn hc)))).trans e1⟩
    · by_cases hj : j = i
      · subst hj
        rw [hi] at e1; cases e1
        rw [List.getElem?_set_self hiσ] at e2
        cases e2
        exact ⟨u, r, .inr ⟨.inl hk, c, hc, hc'⟩⟩
      · rw [List.getElem?_set_ne (Ne.symm hj)] at e2
        obtain ⟨u', r', q⟩ := hl j y v' e1 e2 e3
        refine ⟨u', r', ?_⟩
        rcases q with q | ⟨k, c', e, z'⟩
        · exact .inl q
        · refine .inr ⟨k, c', e, z'.sameBut hs ?_⟩
          rintro rfl
          exact hj (nodup_ix hN e1 (I.ok.inj _ _ _ e hc ▸ hi))
    · by_cases hcc : c' = c
      · subst hcc; exact ⟨_, hc'⟩
      · obtain ⟨w2, z2⟩ := I.cell y c' e
        exact ⟨w2, z2.sameBut hs hcc⟩
    · obtain ⟨e, n, ne, nf, d⟩ := I.pin p hp
      refine ⟨(hs.2 p.1 ?_).trans e, n, ne, nf, d⟩
      intro q
      rw [q, hoc] at e
      have q' : oc = p.2 := Option.some.inj e
      exact d w' (by rw [← q']; exact hocd)
theorem store_ok {M : Model} {A : Around} {E : Value → Shared → Prop} {i : Nat} {x : Str} {v : V} {u : Value} {Q : Unit → Shared → Prop} (I : Inv X pins σ H s) (hN : X.N.Nodup) (hi : X.N[i]? = some x) (hx : Loc X.env.scope x) (r : RelV v u)
    (h : ∀ s', Inv X pins (σ.set i (some v)) H s' → Q () s') (hf : X.fn x = true ∨ X.env.scope.names.lookup x = some .local := by first | exact .inl rfl | exact .inr rfl | assumption) : wpAny M A (storeName X.env x u) Q E s :=
  store_ok2 I hN hi hx r (fun s' I' _ => h s' I') hf
theorem Inv.call' {s' : Shared} {ch : List Addr} (I : Inv X pins σ H s) (ho : s'.os = s.os) (u : Un (frs X.stack) ch H H' s.heap s'.heap) (hok : HOk X.prog X.w H' s'.heap) (hg : AllBare s'.gens)
    (hch : ∀ b ∈ ch, (b ∈ X.ex ∨ X.s₀.heap.objs.size ≤ b) ∧ b ≠ X.env.locals ∧ (∀ x c, X.env.cells.lookup x = some c → c ≠ b) ∧ ∀ p ∈ X.pn ++ pins, p.1 ≠ b) : Inv X pins σ H' s' := by
  obtain ⟨h', g', d', t', o'⟩ := s'
  have e : o' = s.os := ho
  subst e
  exact I.call (g' := g') (t' := t') (d' := d') u hok hg hch
end

noncomputable abbrev XK := Value → Option Addr → Hp → Prop
noncomputable abbrev St := List (Option V)
noncomputable abbrev VK := V → Hp → Prop
noncomputable abbrev TE := St → Hp → VK → Prop
noncomputable abbrev TT := St → Hp → (Bool → Hp → Prop) → Prop
noncomputable abbrev TA := St → Hp → (List V → Hp → Prop) → Prop
structure Ends where
  nx : St → Hp → Prop
  rt : VK
  bk : St → Hp → Prop := fun _ _ => False
  ct : St → Hp → Prop := fun _ _ => False
noncomputable abbrev TS := Ends → St → Hp → Prop

noncomputable def EP (X : Cx) (pins : List (Addr × Obj)) (σ : St) (Q : VK) (u : Value) (s' : Shared) : Prop := ∃ v H', Inv X pins σ H' s' ∧ RelV v u ∧ Q v H'
noncomputable def TP (X : Cx) (pins : List (Addr × Obj)) (σ : St) (Q : Bool → Hp → Prop) (b : Bool) (s' : Shared) : Prop := ∃ H', Inv X pins σ H' s' ∧ Q b H'
noncomputable def AP (X : Cx) (pins : List (Addr × Obj)) (σ : St) (Q : List V → Hp → Prop) (us : List Value) (s' : Shared) : Prop := ∃ vs H', Inv X pins σ H' s' ∧ Vals vs us ∧ Q vs H'
noncomputable def SP (X : Cx) (pins : List (Addr × Obj)) (D : Ends) (f : Flow) (s' : Shared) : Prop :=
  match f with
  | .next => ∃ σ' H', Inv X pins σ' H' s' ∧ D.nx σ' H'
  | .brk => ∃ σ' H', Inv X pins σ' H' s' ∧ D.bk σ' H'
  | .cont => ∃ σ' H', Inv X pins σ' H' s' ∧ D.ct σ' H'
  | .ret u => ∃ v σ' H', Inv X pins σ' H' s' ∧ RelV v u ∧ D.rt v H'

noncomputable def PE (X : Cx) (e : Expr) (t : TE) : Prop :=
  ∀ (pins : List (Addr × Obj)) (s : Shared) (σ : St) (H : Hp) (Q : VK), Inv X pins σ H s → t σ H Q → wpAny (model X.prog X.w) X.A (eval e X.env) (EP X pins σ Q) X.xe s
noncomputable def PT (X : Cx) (e : Expr) (t : TT) : Prop :=
  ∀ (pins : List (Addr × Obj)) (s : Shared) (σ : St) (H : Hp) (Q : Bool → Hp → Prop), Inv X pins σ H s → t σ H Q → wpAny (model X.prog X.w) X.A (isTrue e X.env (eval e X.env)) (TP X pins σ Q) X.xe s
noncomputable def PW (X : Cx) (e : Expr) (t : TT) : Prop :=
  ∀ (whole : Sem Value) (pins : List (Addr × Obj)) (s : Shared) (σ : St) (H : Hp) (Q : Bool → Hp → Prop), Inv X pins σ H s → t σ H Q → wpAny (model X.prog X.w) X.A (isTrue e X.env whole) (TP X pins σ Q) X.xe s
theorem PW.pt {X : Cx} {e : Expr} {t : TT} (h : PW X e t) : PT X e t := h _
noncomputable def PA (X : Cx) (es : List Expr) (t : TA) : Prop :=
  ∀ (pos : Pos) (pins : List (Addr × Obj)) (s : Shared) (σ : St) (H : Hp) (Q : List V → Hp → Prop), Inv X pins σ H s → t σ H Q → wpAny (model X.prog X.w) X.A (spliced (backTo pos (starEach es X.env))) (AP X pins σ Q) X.xe s
noncomputable def PS (X : Cx) (st : Stmt) (t : TS) : Prop :=
  ∀ (pins : List (Addr × Obj)) (s : Shared) (σ : St) (H : Hp) (D : Ends), Inv X pins σ H s → t D σ H → wpAny (model X.prog X.w) X.A (exec st X.env) (SP X pins D) X.xe s
noncomputable def PSs (X : Cx) (st : List Stmt) (t : TS) : Prop :=
  ∀ (pins : List (Addr × Obj)) (s : Shared) (σ : St) (H : Hp) (D : Ends), Inv X pins σ H s → t D σ H → wpAny (model X.prog X.w) X.A (execs st X.env) (SP X pins D) X.xe s
theorem thn {α : Type} {t : Sem α} {Q Q' : α → Shared → Prop} {M : Model} {A : Around} {E : Value → Shared → Prop} {s : Shared} (h : wpAny M A t Q E s) (hQ : ∀ a s, Q a s → Q' a s) : wpAny M A t Q' E s := wpAny_mono h hQ fun _ _ x => x
end L2

namespace L2
open PySem PySem.Spec PyProof.Rows
section
variable {X : Cx}

noncomputable def tVar (i : Nat) : TE := fun σ H Q => ∃ v, σ[i]? = some (some v) ∧ Q v H
noncomputable def tC (v : V) : TE := fun _ H Q => Q v H
theorem pe_var {i : Nat} {x : Str} {pos : Pos} (hN : X.N[i]? = some x) (hv : Vis X.env.scope x) (hd : (x == ("__debug__" : Str)) = false := by decide) (hcd : (x == ("__classdict__" : Str)) = false := by decide) : PE X (.Name x pos) (tVar i) := by
  intro pins s σ H Q I h
  obtain ⟨v, e, h⟩ := h
  obtain ⟨m, hn, hl⟩ := I.loc
  obtain ⟨u, r, l⟩ := hl i x v hN e hv
  have fin : EP X pins σ Q u s := ⟨v, H, I, r, h⟩
  rcases l with ⟨hk, hm⟩ | ⟨hk, c, hc, hcell⟩
  · exact wpAny_Name (wpAny_loadName_local I.ok.kind hk hn hm fin) hd
  · rcases hk with hk | hk
    · exact wpAny_Name (wpAny_loadName_cell I.ok.kind hk hc hcell fin) hd
    · exact wpAny_Name (wpAny_loadName_free I.ok.kind hk hc hcell fin hcd) hd
theorem pe_int {i j pos} : PE X (.Constant (.int i) j pos) (tC (.int i)) := fun _ _ _ H _ I h => wpAny_Constant_int ⟨.int i, H, I.tok _, ⟨_, rfl⟩, h⟩
theorem pe_bl {b j pos} : PE X (.Constant (.bool b) j pos) (tC (.bl b)) := fun _ _ _ H _ I h => Constant_bool ⟨.bl b, H, I, rfl, h⟩
theorem pe_non {j pos} : PE X (.Constant .none j pos) (tC .non) := fun _ _ _ H _ I h => Constant_none ⟨.non, H, I, rfl, h⟩
theorem pe_str {x j pos} : PE X (.Constant (.str x) j pos) (tC (.str x)) := fun _ _ _ H _ I h => Calls.Constant_str ⟨.str x, H, I.tok _, ⟨_, rfl⟩, h⟩

noncomputable def Gl (X : Cx) (x : Str) : Prop := X.env.kindOf x = some .globalImplicit
theorem ld_glob {E : Value → Shared → Prop} {pins : List (Addr × Obj)} {s : Shared} {σ : St} {H : Hp} {x : Str} {u : Value} {pos : Pos} {Q : Value → Shared → Prop} (I : Inv X pins σ H s) (hg : Gl X x) (hm : X.mg x = some u) (h : Q u s)
    (hd : (x == ("__debug__" : Str)) = false := by decide) : wpAny (model X.prog X.w) X.A (eval (.Name x pos) X.env) Q E s :=
  Calls.Name_function_global I.ok.kind hg (Calls.loadGlobal_global (by rw [I.ok.glob]; exact I.mod.glob.keeps I.bk) hm h) hd
theorem ld_blt {E : Value → Shared → Prop} {pins : List (Addr × Obj)} {s : Shared} {σ : St} {H : Hp} {x : Str} {u : Value} {pos : Pos} {Q : Value → Shared → Prop} (I : Inv X pins σ H s) (hg : Gl X x) (hm : X.mg x = none) (hv : bootBuiltins x = some u) (h : Q u s)
    (hn : x ≠ "__name__" := by decide) (hd : (x == ("__debug__" : Str)) = false := by decide) : wpAny (model X.prog X.w) X.A (eval (.Name x pos) X.env) Q E s := by
  obtain ⟨mb, h1, h2⟩ := I.mod.blt
  exact Calls.Name_function_global I.ok.kind hg (Calls.loadGlobal_builtin (by rw [I.ok.glob]; exact I.mod.glob.keeps I.bk) hm (by rw [I.ok.blt]; exact h1.keeps I.bk) ((h2 x hn).trans hv) h) hd
theorem pe_glob {x : Str} {v : V} {u : Value} {pos : Pos} (hg : Gl X x) (hm : X.mg x = some u) (r : RelV v u) (hd : (x == ("__debug__" : Str)) = false := by decide) : PE X (.Name x pos) (tC v) :=
  fun _ _ _ H _ I h => ld_glob I hg hm ⟨v, H, I, r, h⟩ hd
theorem pe_bltn {x : Str} {v : V} {u : Value} {pos : Pos} (hg : Gl X x) (hm : X.mg x = none) (hv : bootBuiltins x = some u) (r : RelV v u) (hn : x ≠ "__name__" := by decide) (hd : (x == ("__debug__" : Str)) = false := by decide) : PE X (.Name x pos) (tC v) :=
  fun _ _ _ H _ I h => ld_blt I hg hm hv ⟨v, H, I, r, h⟩ hn hd

variable {a b : Expr} {ta tb : TE} {pos : Pos}
theorem nobehind (b : Expr) {op : CmpOp} (h : op ≠ .In) (h2 : op ≠ .NotIn) : behindInMarks op b = false := by
  have e1 : (op == CmpOp.In) = false := by cases op <;> first | rfl | exact absurd rfl h
  have e2 : (op == CmpOp.NotIn) = false := by cases op <;> first | rfl | exact absurd rfl h2
  cases b <;> simp [behindInMarks, e1, e2]
variable {tA tB' : TT} {rest : List Expr}
theorem pw_and1 (ha : PT X a tA) : PW X (.BoolOp .And [a] pos) tA := by
  intro wh pins s σ H Q I h
  refine isTrue_and (thn (ha pins s σ H Q I h) fun c s1 e => ?_)
  cases c with
  | true => exact isTrue_and_nil e
  | false => exact e
theorem pw_or1 (ha : PT X a tA) : PW X (.BoolOp .Or [a] pos) tA := by
  intro wh pins s σ H Q I h
  refine isTrue_or (thn (ha pins s σ H Q I h) fun c s1 e => ?_)
  cases c with
  | false => exact isTrue_or_nil e
  | true => exact e
theorem pe_one {op} {t : TE} (h : PE X a t) : PE X (.BoolOp op [a] pos) t := fun pins s σ H Q I hw => BoolOp_one (h pins s σ H Q I hw)
end
end L2

namespace L2
open PySem PySem.Spec PyProof.Rows

noncomputable def SqL (K : PySem.W.Frag) (H : Hp) (a : Addr) (xs : List V) : Prop :=
  Rd H a (.lst xs) ∨
    ∃ (o : Obj) (its : Array Value) (n : Nat), K.lookup a = some o ∧ o.cls = .type "list" ∧ o.dict = none ∧ o.data = .seq its n ∧ its.size ≤ sizeLine ∧ Vals xs its.toList
noncomputable def SqT (K : PySem.W.Frag) (H : Hp) (a : Addr) (xs : List V) : Prop :=
  Rd H a (.tup xs) ∨
    ∃ (o : Obj) (its : Array Value) (n : Nat), K.lookup a = some o ∧ o.cls = .type "tuple" ∧ o.data = .seq its n ∧ its.size ≤ sizeLine ∧ Vals xs its.toList
noncomputable def absV : Value → Option V
  | .none => some .non
  | .bool b => some (.bl b)
  | .int i _ => some (.int i)
  | .str x _ => some (.str x)
  | .bytes b _ => some (.byt b)
  | .float b _ => some (.flt b)
  | .ref a => some (.ref a)
  | .type n => some (.ty n)
  | _ => none
theorem RelV.abs {x : V} {u : Value} (r : RelV x u) : absV u = some x := by
  cases x with
  | non => cases r; rfl
  | bl _ => cases r; rfl
  | int _ => obtain ⟨t, rfl⟩ := r; rfl
  | str _ => obtain ⟨t, rfl⟩ := r; rfl
  | byt _ => obtain ⟨t, rfl⟩ := r; rfl
  | flt _ => obtain ⟨t, rfl⟩ := r; rfl
  | ref _ => cases r; rfl
  | ty _ => cases r; rfl
theorem RelV.inj {x y : V} {u : Value} (r : RelV x u) (q : RelV y u) : x = y := Option.some.inj (r.abs.symm.trans q.abs)
theorem Vals.inj : ∀ {xs ys : List V} {us : List Value}, Vals xs us → Vals ys us → xs = ys
  | _, _, _, .nil, .nil => rfl
  | _, _, _, .cons r t, .cons r' t' => by rw [r.inj r', Vals.inj t t']
section
variable {X : Cx} {pins : List (Addr × Obj)} {σ : St} {H : Hp} {s : Shared} {a : Addr} {xs ys : List V}
theorem SqL.of {K : PySem.W.Frag} (h : H a = some (.lst xs)) : SqL K H a xs := .inl (.inl h)
theorem SqT.of {K : PySem.W.Frag} (h : H a = some (.tup xs)) : SqT K H a xs := .inl (.inl h)
theorem Inv.list (I : Inv X pins σ H s) (h : SqL X.K H a xs) : ∃ its : List Value, Vals xs its ∧ PlainL s.heap a its.toArray ∧ xs.length ≤ sizeLine := by
  rcases h with h | ⟨o, its, n, hk, hc, hd, hs, hz, r⟩
  · obtain ⟨z, its, n, r, e⟩ := h.ok I.hok
    exact ⟨its, r, ⟨_, n, e, rfl, rfl, rfl⟩, z⟩
  · refine ⟨its.toList, r, ⟨o, n, I.kIn a o hk, hc, hd, by simpa using hs⟩, ?_⟩
    have e := r.length
    simp only [Array.length_toList] at e
    omega
theorem Inv.tuple (I : Inv X pins σ H s) (h : SqT X.K H a xs) : ∃ its : List Value, Vals xs its ∧ IsTup s.heap a its.toArray ∧ xs.length ≤ sizeLine := by
  rcases h with h | ⟨o, its, n, hk, hc, hs, hz, r⟩
  · obtain ⟨z, its, r, p⟩ := h.ok I.hok
    exact ⟨its, r, p, z⟩
  · refine ⟨its.toList, r, ⟨o, I.kIn a o hk, hc, n, by simpa using hs⟩, ?_⟩
    have e := r.length
    simp only [Array.length_toList] at e
    omega
theorem Inv.list_inj (I : Inv X pins σ H s) (h : SqL X.K H a xs) (h' : SqL X.K H a ys) : xs = ys := by
  obtain ⟨its, r, ⟨o, n, e, _, _, d⟩, _⟩ := I.list h
  obtain ⟨its', r', ⟨o', n', e', _, _, d'⟩, _⟩ := I.list h'
  rw [e] at e'; cases e'
  rw [d] at d'
  injection d' with d1 _
  have : its = its' := by simpa using congrArg Array.toList d1
  subst this
  exact r.inj r'
theorem Inv.tuple_inj (I : Inv X pins σ H s) (h : SqT X.K H a xs) (h' : SqT X.K H a ys) : xs = ys := by
  obtain ⟨its, r, ⟨o, e, _, n, d⟩, _⟩ := I.tuple h
  obtain ⟨its', r', ⟨o', e', _, n', d'⟩, _⟩ := I.tuple h'
  rw [e] at e'; cases e'
  rw [d] at d'
  injection d' with d1 _
  have : its = its' := by simpa using congrArg Array.toList d1
  subst this
  exact r.inj r'
end

noncomputable abbrev Cx.wish (X : Cx) (E : Value → Shared → Prop) : Cx := { X with xe := E }
noncomputable abbrev Cx.nox (X : Cx) : Cx := X.wish fun _ _ => False
theorem Cx.Ok.wish {X : Cx} (ok : X.Ok) (E : Value → Shared → Prop) : (X.wish E).Ok :=
  ⟨ok.mod, ok.kind, ok.glob, ok.blt, ok.above, ok.inj, ok.has, ok.cab, ok.hd, ok.frames, ok.stk, ok.exf, ok.bs, ok.bsz, ok.noex, ok.exfs, ok.funs, ok.frf⟩
theorem Cx.Ok.unwish {X : Cx} {E : Value → Shared → Prop} (ok : (X.wish E).Ok) : X.Ok :=
  ⟨ok.mod, ok.kind, ok.glob, ok.blt, ok.above, ok.inj, ok.has, ok.cab, ok.hd, ok.frames, ok.stk, ok.exf, ok.bs, ok.bsz, ok.noex, ok.exfs, ok.funs, ok.frf⟩
section
variable {X : Cx} {pins : List (Addr × Obj)} {σ : St} {H : Hp} {s : Shared} {E : Value → Shared → Prop}
theorem Inv.wish (I : Inv X pins σ H s) (E : Value → Shared → Prop) : Inv (X.wish E) pins σ H s := ⟨I.ok.wish E, I.os, I.bare, I.base, I.loc, I.cell, I.free, I.freeC, I.pin, I.hok, I.len⟩
theorem Inv.unwish (I : Inv (X.wish E) pins σ H s) : Inv X pins σ H s := ⟨I.ok.unwish, I.os, I.bare, I.base, I.loc, I.cell, I.free, I.freeC, I.pin, I.hok, I.len⟩
theorem SP.unwish {D : Ends} {f : Flow} {s' : Shared} (h : SP (X.wish E) pins D f s') : SP X pins D f s' := by
  cases f with
  | next => obtain ⟨σ', H', I, q⟩ := h; exact ⟨σ', H', I.unwish, q⟩
  | brk => obtain ⟨σ', H', I, q⟩ := h; exact ⟨σ', H', I.unwish, q⟩
  | cont => obtain ⟨σ', H', I, q⟩ := h; exact ⟨σ', H', I.unwish, q⟩
  | ret u => obtain ⟨v, σ', H', I, r, q⟩ := h; exact ⟨v, σ', H', I.unwish, r, q⟩
theorem PE.nox {e : Expr} {t : TE} (h : PE X.nox e t) : PE X e t := fun pins s σ H Q I hw =>
  wpAny_mono (h pins s σ H Q (I.wish _) hw) (fun _ _ ⟨v, H', I', r, q⟩ => ⟨v, H', I'.unwish, r, q⟩) fun _ _ z => False.elim z
theorem PT.nox {e : Expr} {t : TT} (h : PT X.nox e t) : PT X e t := fun pins s σ H Q I hw =>
  wpAny_mono (h pins s σ H Q (I.wish _) hw) (fun _ _ ⟨H', I', q⟩ => ⟨H', I'.unwish, q⟩) fun _ _ z => False.elim z
theorem PSs.nox {st : List Stmt} {t : TS} (h : PSs X.nox st t) : PSs X st t := fun pins s σ H D I hw =>
  wpAny_mono (h pins s σ H D (I.wish _) hw) (fun _ _ q => q.unwish) fun _ _ z => False.elim z
end

section
variable {X : Cx} {st : Stmt} {rest : List Stmt} {t u : TS} {e : Expr} {te : TE} {pos : Pos}
noncomputable def tNext : TS := fun D σ H => D.nx σ H
noncomputable def tSeq (t u : TS) : TS := fun D σ H => t { D with nx := u D } σ H
theorem pss_nil : PSs X [] tNext := fun _ _ σ H _ I h => wpAny_execs_nil ⟨σ, H, I, h⟩
theorem pss_cons (h1 : PS X st t) (h2 : PSs X rest u) : PSs X (st :: rest) (tSeq t u) := by
  intro pins s σ H D I h
  refine wpAny_execs_cons (thn (h1 pins s σ H { D with nx := u D } I h) fun f s1 q => ?_)
  cases f with
  | next =>
    obtain ⟨σ', H', I', q⟩ := q
    exact h2 pins s1 σ' H' D I' q
  | ret v => exact q
  | brk => exact q
  | cont => exact q
theorem pss_one (h1 : PS X st t) : PSs X [st] t := by
  intro pins s σ H D I h
  refine wpAny_execs_cons (thn (h1 pins s σ H D I h) fun f s1 q => ?_)
  cases f with
  | next => exact wpAny_execs_nil q
  | ret v => exact q
  | brk => exact q
  | cont => exact q
theorem Inv.quiet {pins : List (Addr × Obj)} {σ : St} {H : Hp} {s : Shared} (I : Inv X pins σ H s) : interactive X.env = false := by simp [interactive, I.ok.kind]
noncomputable def tDrop (te : TE) : TS := fun D σ H => te σ H fun _ H1 => D.nx σ H1
theorem ps_expr (he : PE X e te) (hs : swapsWith e none pos.line X.env = pure false := by rfl) : PS X (.Expr e pos) (tDrop te) := by
  intro pins s σ H D I h
  exact wpAny_Expr_any (thn (he pins s σ H _ I h) fun v s1 ⟨x, H1, I1, r1, q1⟩ => ⟨σ, H1, I1, q1⟩) I.quiet hs
noncomputable def tRet (te : TE) : TS := fun D σ H => te σ H D.rt
theorem ps_ret (he : PE X e te) : PS X (.Return (some e) pos) (tRet te) := by
  intro pins s σ H D I h
  exact wpAny_Return_some (thn (he pins s σ H _ I h) fun v s1 ⟨x, H1, I1, r1, q1⟩ => ⟨x, σ, H1, I1, r1, q1⟩)
noncomputable def tIfS (c : TT) (t u : TS) : TS := fun D σ H => c σ H fun b H1 => if b = true then t D σ H1 else u D σ H1
theorem ps_if {c : Expr} {a b : List Stmt} {tc : TT} (hc : PT X c tc) (ha : PSs X a t) (hb : PSs X b u) : PS X (.If c a b pos) (tIfS tc t u) := by
  intro pins s σ H D I h
  refine wpAny_If (thn (hc pins s σ H _ I h) fun d s1 ⟨H1, I1, q1⟩ => ?_)
  cases d with
  | true => exact ha pins s1 σ H1 D I1 q1
  | false => exact hb pins s1 σ H1 D I1 q1
end

noncomputable abbrev TG := V → St → Hp → (St → Hp → Prop) → Prop
noncomputable def PG (X : Cx) (target : Expr) (t : TG) : Prop :=
  ∀ (pins : List (Addr × Obj)) (s : Shared) (σ : St) (H : Hp) (v : V) (u : Value) (Q : St → Hp → Prop), Inv X pins σ H s → RelV v u → t v σ H Q →
    wpAny (model X.prog X.w) X.A (assign target X.env u) (fun _ s' => ∃ σ' H', Inv X pins σ' H' s' ∧ Q σ' H') X.xe s
section
variable {X : Cx} {pos : Pos}
noncomputable def gName (i : Nat) : TG := fun v σ H Q => Q (σ.set i (some v)) H
theorem pg_name {i : Nat} {x : Str} (hN : X.N.Nodup) (hi : X.N[i]? = some x) (hx : Loc X.env.scope x) (hf : X.fn x = true ∨ X.env.scope.names.lookup x = some .local := by first | exact .inl rfl | exact .inr rfl | assumption) : PG X (.Name x pos) (gName i) := by
  intro pins s σ H v u Q I r h
  exact wpAny_assign_Name (store_ok I hN hi hx r (fun s' I' => ⟨_, H, I', h⟩) hf)
noncomputable def tAsg (te : TE) (g : TG) : TS := fun D σ H => te σ H fun x H1 => g x σ H1 D.nx
theorem ps_set {i : Nat} {x : Str} {e : Expr} {te : TE} {pos' : Pos} (hN : X.N.Nodup) (hi : X.N[i]? = some x) (hx : Loc X.env.scope x) (he : PE X e te) (hs : swapsWith e (some (.Name x pos')) pos.line X.env = pure false := by rfl) (hf : X.fn x = true ∨ X.env.scope.names.lookup x = some .local := by first | exact .inl rfl | exact .inr rfl | assumption) :
    PS X (.Assign [.Name x pos'] e pos) (tAsg te (gName i)) := by
  intro pins s σ H D I h
  refine wpAny_Assign_Name (thn (he pins s σ H _ I h) fun v s1 ⟨y, H1, I1, r1, q1⟩ => ?_) hs
  exact store_ok I1 hN hi hx r1 (fun s2 I2 => ⟨_, H1, I2, q1⟩) hf
end

section
variable {X : Cx} {pos : Pos}
end

structure It where
  go : Nat → Hp → Prop
  yld : Nat → Hp → V → Hp → Prop
  stop : Nat → Hp → Prop
noncomputable def FpOk (X : Cx) (pins : List (Addr × Obj)) (H : Hp) (b : Addr) : Prop :=
  H b = none ∧ b ≠ X.env.locals ∧ b ∉ X.fs ∧ (b ∈ X.ex ∨ X.s₀.heap.objs.size ≤ b) ∧ (∀ x c, X.env.cells.lookup x = some c → c ≠ b) ∧ ∀ p ∈ X.pn ++ pins, p.1 ≠ b
theorem Inv.fpOk {X : Cx} {pins : List (Addr × Obj)} {σ : St} {H H' : Hp} {s : Shared} {b : Addr} (I : Inv X pins σ H s) (hb : s.heap.objs.size ≤ b) (hn : H' b = none) : FpOk X pins H' b := by
  refine ⟨hn, Nat.ne_of_gt (Nat.lt_of_lt_of_le I.lt hb), I.nofs hb, .inr (Nat.le_trans I.sz hb), fun x c e z => ?_, fun p hp z => ?_⟩
  · obtain ⟨v, q⟩ := I.cell x c e
    exact absurd (Nat.lt_of_lt_of_le q.lt (by rw [z]; exact hb)) (Nat.lt_irrefl _)
  · exact absurd (Nat.lt_of_lt_of_le (Heap.lt_size (I.pin p hp).1) (by rw [z]; exact hb)) (Nat.lt_irrefl _)
structure Turn (P : Program) (w : World) (K : PySem.W.Frag) (tg : Expr) (J : It) (fp : List Addr) (it : Addr) (tn : Nat → Heap → Prop) : Prop where
  mem : it ∈ fp
  obj : ∀ i h, tn i h → ∀ b ∈ fp, ∃ o, h.get? b = some o ∧ ∀ v, o.data ≠ .cell v
  keep : ∀ i h h', tn i h → (∀ b ∈ fp, ∀ o, h.get? b = some o → h'.get? b = some o) → tn i h'
  item : ∀ (X : Cx), X.prog = P → X.w = w → X.K = K → X.calm = true → ∀ (i : Nat) (pins : List (Addr × Obj)) (s : Shared) (σ : St) (H : Hp) (E : Value → Shared → Prop), Inv X pins σ H s → (∀ b ∈ fp, FpOk X pins H b) → tn i s.heap → J.go i H →
    wpAny (model P w) X.A (pyNext (.ref it)) (fun r s1 => ∃ u, r = some u ∧
      wpAny (model P w) X.A (letOwnedTupleGo tg (.ref it) u) (fun _ s2 => ∃ x H', Inv X pins σ H' s2 ∧ RelV x u ∧ J.yld i H x H' ∧ tn (i + 1) s2.heap ∧ ∀ b ∈ fp, H' b = none) E s1) E s
  done : ∀ (X : Cx), X.prog = P → X.w = w → X.K = K → X.calm = true → ∀ (i : Nat) (pins : List (Addr × Obj)) (s : Shared) (σ : St) (H : Hp) (E : Value → Shared → Prop), Inv X pins σ H s → (∀ b ∈ fp, FpOk X pins H b) → tn i s.heap → J.stop i H →
    wpAny (model P w) X.A (pyNext (.ref it)) (fun r s1 => r = none ∧ Inv X pins σ H s1) E s
  self : ∀ (A : Around) (i : Nat) (s : Shared) (Q : Value → Shared → Prop) (E : Value → Shared → Prop), tn i s.heap → Q (.ref it) s → wpAny (model P w) A (pyIter (.ref it)) Q E s
noncomputable abbrev TI := St → Hp → (It → Hp → Prop) → Prop
noncomputable def PIE (X : Cx) (pins : List (Addr × Obj)) (σ : St) (tg : Expr) (R : It → Hp → Prop) (itv : Value) (s2 : Shared) : Prop :=
  ∃ (it : Addr) (fp : List Addr) (tn : Nat → Heap → Prop) (J : It) (H' : Hp), itv = .ref it ∧ Inv X pins σ H' s2 ∧ Turn X.prog X.w X.K tg J fp it tn ∧ tn 0 s2.heap ∧ (∀ b ∈ fp, FpOk X pins H' b) ∧ R J H'
noncomputable def PI (X : Cx) (tg iter : Expr) (wi : TI) : Prop :=
  ∀ (pins : List (Addr × Obj)) (s : Shared) (σ : St) (H : Hp) (R : It → Hp → Prop), Inv X pins σ H s → wi σ H R →
    wpAny (model X.prog X.w) X.A (eval iter X.env) (fun v s1 => wpAny (model X.prog X.w) X.A (pyIter v) (PIE X pins σ tg R) X.xe s1) X.xe s

theorem go_of {M : Model} {A : Around} {E : Value → Shared → Prop} {s : Shared} {tg : Expr} {it : Addr} {u : Value} {o : Obj} {n : String} {vs : Array Value} {Q : Unit → Shared → Prop} (ho : s.heap.get? it = some o) (hc : o.cls = .type n) (hd : o.data = .fields vs)
    (hn : ["enumerate", "zip", "dict_itemiterator", "dict_reverseitemiterator", "odict_iterator", "itertools.zip_longest", "itertools.pairwise"].contains n = false) (hQ : Q () s) : wpAny M A (letOwnedTupleGo tg (.ref it) u) Q E s := by
  unfold letOwnedTupleGo
  cases tg <;> first
    | exact wpAny_pure hQ
    | (cases u <;> first
        | exact wpAny_pure hQ
        | (refine wpAny_bind (wpAny_load ho ?_)
           rw [hc, hd]
           show wpAny M A (if (["enumerate", "zip", "dict_itemiterator", "dict_reverseitemiterator", "odict_iterator", "itertools.zip_longest", "itertools.pairwise"].contains n && vs[0]? == some (rawInt _)) = true then _ else _) Q E s
           rw [if_neg (by intro h; rw [hn, Bool.false_and] at h; cases h)]
           exact wpAny_pure hQ))

noncomputable def Itl (K : PySem.W.Frag) (a : Addr) : It :=
  ⟨fun i H => ∃ xs x, SqL K H a xs ∧ xs[i]? = some x, fun i H x H' => H' = H ∧ ∀ xs, SqL K H a xs → xs[i]? = some x, fun i H => ∃ xs, SqL K H a xs ∧ xs.length ≤ i⟩
noncomputable def Itt (K : PySem.W.Frag) (a : Addr) : It :=
  ⟨fun i H => ∃ xs x, SqT K H a xs ∧ xs[i]? = some x, fun i H x H' => H' = H ∧ ∀ xs, SqT K H a xs → xs[i]? = some x, fun i H => ∃ xs, SqT K H a xs ∧ xs.length ≤ i⟩
noncomputable def Itr (lo : Int) (n : Nat) : It := ⟨fun i _ => i < n, fun i H x H' => H' = H ∧ x = .int (lo + i), fun i _ => n ≤ i⟩
theorem turn_list {P : Program} {w : World} {K : PySem.W.Frag} {tg : Expr} (a it : Addr) : Turn P w K tg (Itl K a) [it] it (fun i h => h.IsListIter it a i) where
  mem := by simp
  obj := fun i h st b hb => by
    have e : b = it := by simpa using hb
    subst e
    obtain ⟨o, e, c, d⟩ := st
    exact ⟨o, e, fun v z => by rw [d] at z; cases z⟩
  keep := fun i h h' st k => st.at fun o e => k it (by simp) o e
  item := by
    intro X hP hw hK hc i pins s σ H E I hf st hg
    subst hP hw hK
    obtain ⟨xs, x, hq, hx⟩ := hg
    obtain ⟨its, rv, p, hz⟩ := I.list hq
    obtain ⟨u, hu, ru⟩ := rv.get hx
    obtain ⟨f0, f1, f2, f3, f4, f5⟩ := hf it (by simp)
    refine wpAny_pyNext_list_item st p.isList (x := u) (by simpa using hu) fun h' st' sb => ?_
    have I1 : Inv X pins σ H { s with heap := h' } := I.turned (t' := s.toks) (fun b o hb e => (sb.2 b hb).trans e) f0 f1 f3 f4 f5
    obtain ⟨o, e, c, d⟩ := id st'
    exact ⟨u, rfl, go_of (s := { s with heap := h' }) e c d (by decide) ⟨x, H, I1, ru, ⟨rfl, fun ys hy => by rw [I.list_inj hy hq]; exact hx⟩, st', fun b hb => (hf b hb).1⟩⟩
  done := by
    intro X hP hw hK hc i pins s σ H E I hf st hg
    subst hP hw hK
    obtain ⟨xs, hq, hx⟩ := hg
    obtain ⟨its, rv, p, hz⟩ := I.list hq
    obtain ⟨f0, f1, f2, f3, f4, f5⟩ := hf it (by simp)
    have hl := rv.length
    exact wpAny_pyNext_list_end (I.ok.hd hc) st p.isList (by simp; omega) fun h' eb => ⟨rfl, I.turned (t' := s.toks) (fun b o hb e => eb b o hb e) f0 f1 f3 f4 f5⟩
  self := fun _ _ _ _ _ st h => wpAny_pyIter_listiter st h
theorem turn_tuple {P : Program} {w : World} {K : PySem.W.Frag} {tg : Expr} (a it : Addr) : Turn P w K tg (Itt K a) [it] it (fun i h => h.IsTupleIter it a i) where
  mem := by simp
  obj := fun i h st b hb => by
    have e : b = it := by simpa using hb
    subst e
    obtain ⟨o, e, c, d⟩ := st
    exact ⟨o, e, fun v z => by rw [d] at z; cases z⟩
  keep := fun i h h' st k => st.at fun o e => k it (by simp) o e
  item := by
    intro X hP hw hK hc i pins s σ H E I hf st hg
    subst hP hw hK
    obtain ⟨xs, x, hq, hx⟩ := hg
    obtain ⟨its, rv, p, hz⟩ := I.tuple hq
    obtain ⟨u, hu, ru⟩ := rv.get hx
    obtain ⟨f0, f1, f2, f3, f4, f5⟩ := hf it (by simp)
    refine wpAny_pyNext_tuple_item st (show s.heap.IsTuple a its.toArray from p) (x := u) (by simpa using hu) fun h' st' sb => ?_
    have I1 : Inv X pins σ H { s with heap := h' } := I.turned (t' := s.toks) (fun b o hb e => (sb.2 b hb).trans e) f0 f1 f3 f4 f5
    obtain ⟨o, e, c, d⟩ := id st'
    exact ⟨u, rfl, go_of (s := { s with heap := h' }) e c d (by decide) ⟨x, H, I1, ru, ⟨rfl, fun ys hy => by rw [I.tuple_inj hy hq]; exact hx⟩, st', fun b hb => (hf b hb).1⟩⟩
  done := by
    intro X hP hw hK hc i pins s σ H E I hf st hg
    subst hP hw hK
    obtain ⟨xs, hq, hx⟩ := hg
    obtain ⟨its, rv, p, hz⟩ := I.tuple hq
    obtain ⟨f0, f1, f2, f3, f4, f5⟩ := hf it (by simp)
    have hl := rv.length
    exact wpAny_pyNext_tuple_end (I.ok.hd hc) st (show s.heap.IsTuple a its.toArray from p) (by simp; omega) fun h' eb => ⟨rfl, I.turned (t' := s.toks) (fun b o hb e => eb b o hb e) f0 f1 f3 f4 f5⟩
  self := fun _ _ _ _ _ st h => wpAny_pyIter_tupleiter st h
theorem turn_range {P : Program} {w : World} {K : PySem.W.Frag} {tg : Expr} (it : Addr) (lo : Int) (n : Nat) : Turn P w K tg (Itr lo n) [it] it (fun i h => IsRangeIter h it (lo + (i : Nat) * 1) ((n : Int) - (i : Nat)) 1) where
  mem := by simp
  obj := fun i h st b hb => by
    have e : b = it := by simpa using hb
    subst e
    exact ⟨_, st, fun v z => by
      have z' : Data.fields _ = Data.cell v := z
      cases z'⟩
  keep := fun i h h' st k => k it (by simp) _ st
  item := by
    intro X hP hw hK hc i pins s σ H E I hf st hg
    subst hP hw hK
    obtain ⟨f0, f1, f2, f3, f4, f5⟩ := hf it (by simp)
    have W := Walks.range (prog := X.prog) (w := X.w) (I.ok.hd hc) it lo 1 n
    refine W.item i s _ _ hg st fun v h' tk hv st' kk => ?_
    obtain ⟨t, rfl⟩ := hv
    have I1 : Inv X pins σ H { s with heap := h', toks := tk } := I.turned (fun b o hb e => kk b o (by simpa using hb) e) f0 f1 f3 f4 f5
    refine ⟨_, rfl, go_of (s := { s with heap := h', toks := tk }) (n := "range_iterator") st' rfl rfl (by decide) ⟨.int (lo + i), H, I1, ⟨t, ?_⟩, ⟨rfl, rfl⟩, st', fun b hb => (hf b hb).1⟩⟩
    rw [Int.mul_one]
  done := by
    intro X hP hw hK hc i pins s σ H E I hf st hg
    subst hP hw hK
    obtain ⟨f0, f1, f2, f3, f4, f5⟩ := hf it (by simp)
    exact wpAny_pyNext_range_end (I.ok.hd hc) st (by have : n ≤ i := hg; omega) fun h' eb => ⟨rfl, I.turned (t' := s.toks) (fun b o hb e => eb b o hb e) f0 f1 f3 f4 f5⟩
  self := fun _ _ _ _ _ st h => wpAny_pyIter_rangeiter st h
end L2

namespace L2
open PySem PySem.Spec PyProof.Rows
section
variable {X : Cx} {tg : Expr}
theorem range_it {pins : List (Addr × Obj)} {σ : St} {H : Hp} {s : Shared} {R : It → Hp → Prop} {E : Value → Shared → Prop} {lo hi : Int} {t u v : Tok} {tk : Nat} (I : Inv X pins σ H s) (h1 : -(2 ^ 62) ≤ lo) (h2 : lo < 2 ^ 62) (h3 : -(2 ^ 62) ≤ hi) (h4 : hi < 2 ^ 62)
    (q : R (Itr lo (hi - lo).toNat) H) : wpAny (model X.prog X.w) X.A (pyIter (.ref s.heap.objs.size)) (PIE X pins σ tg R) E { s with heap := s.heap.push { cls := .type "range", data := .fields #[.int lo t, .int hi u, .int 1 v] }, toks := tk } := by
  refine wpAny_pyIter_range (IsRange.new ..) (small_one h1 h2 h3 h4) ?_
  have I1 : Inv X pins σ H { s with heap := s.heap.push { cls := .type "range", data := .fields #[.int lo t, .int hi u, .int 1 v] }, toks := tk } := I.kept fun b o e => Heap.get?_push_of_some _ e
  refine ⟨(s.heap.push { cls := .type "range", data := .fields #[.int lo t, .int hi u, .int 1 v] }).objs.size, [(s.heap.push { cls := .type "range", data := .fields #[.int lo t, .int hi u, .int 1 v] }).objs.size], _, _, H, rfl,
    I1.kept (t' := tk) fun b o e => Heap.get?_push_of_some _ e, turn_range _ lo (hi - lo).toNat, ?_, fun b hb => ?_, q⟩
  · have e1 : lo + ((0 : Nat) : Int) * 1 = lo := by simp
    have e2 : (((hi - lo).toNat : Nat) : Int) - ((0 : Nat) : Int) = Builtin.Range.rangeSize lo hi 1 := by rw [rangeSize_one]; split <;> omega
    show IsRangeIter _ _ (lo + ((0 : Nat) : Int) * 1) ((((hi - lo).toNat : Nat) : Int) - ((0 : Nat) : Int)) 1
    rw [e1, e2]
    exact Heap.get?_push_size _ rfl
  · have e : b = (s.heap.push { cls := .type "range", data := .fields #[.int lo t, .int hi u, .int 1 v] }).objs.size := by simpa using hb
    subst e
    exact I1.fpOk (Nat.le_refl _) (I1.hok.fresh (Nat.le_refl _))
noncomputable def iRng1 (ta : TA) : TI := fun σ H R => ta σ H fun vs H1 => ∃ j : Int, vs = [.int j] ∧ -(2 ^ 62) ≤ j ∧ j < 2 ^ 62 ∧ R (Itr 0 j.toNat) H1
theorem pi_range1 {a : Expr} {ta : TA} {p pos : Pos} (hg : Gl X "range") (hm : X.mg "range" = none) (ha : PA X [a] ta) (hs : starEach [a] X.env = [(false, eval a X.env)] := by rfl) : PI X tg (.Call (.Name "range" p) [a] [] pos) (iRng1 ta) := by
  intro pins s σ H R I h
  refine Call_ (ld_blt I hg hm boot_range (PyProof.Rows.callWith_type1 (thn (ha pos pins s σ H _ I h) fun us s1 ⟨vs, H1, I1, r1, q1⟩ => ?_) hs rfl))
  obtain ⟨j, e, q1, q2, q⟩ := q1
  subst e
  cases r1 with
  | cons r rr =>
    cases rr
    obtain ⟨t, rfl⟩ := r
    exact call_range_1 (range_it I1 (by omega) (by omega) q1 q2 (by simpa using q))
noncomputable def tFor (wi : TI) (g : TG) (tb : TS) : TS := fun D σ H => wi σ H fun J H1 => ∃ W : Nat → Nat → St → Hp → Prop, (∃ m, W 0 m σ H1) ∧ ∀ i m σ H, W i m σ H →
  (J.stop i H ∧ D.nx σ H) ∨ (J.go i H ∧ ∃ N : St → Hp → Prop, (∀ σ' H', N σ' H' → ∃ m', m' < m ∧ W (i + 1) m' σ' H') ∧ ∀ x H', J.yld i H x H' → g x σ H' fun σ2 H2 => tb { D with nx := N, ct := N, bk := D.nx } σ2 H2)
noncomputable def pinsAt (fp : List Addr) (h : Heap) : List (Addr × Obj) := fp.filterMap fun b => (h.get? b).map fun o => (b, o)
theorem mem_pinsAt {fp : List Addr} {h : Heap} {b : Addr} {o : Obj} (hb : b ∈ fp) (e : h.get? b = some o) : (b, o) ∈ pinsAt fp h := List.mem_filterMap.mpr ⟨b, hb, by rw [e]; rfl⟩
theorem of_pinsAt {fp : List Addr} {h : Heap} {p : Addr × Obj} (hp : p ∈ pinsAt fp h) : p.1 ∈ fp ∧ h.get? p.1 = some p.2 := by
  obtain ⟨b, hb, e⟩ := List.mem_filterMap.mp hp
  cases q : h.get? b with
  | none => rw [q] at e; cases e
  | some o =>
    rw [q] at e
    have e' : (b, o) = p := Option.some.inj e
    subst e'
    exact ⟨hb, q⟩
theorem Inv.pinned {pins : List (Addr × Obj)} {σ : St} {H : Hp} {s : Shared} {fp : List Addr} (I : Inv X pins σ H s) (hf : ∀ b ∈ fp, FpOk X pins H b) (ho : ∀ b ∈ fp, ∃ o, s.heap.get? b = some o ∧ ∀ v, o.data ≠ .cell v) : Inv X (pins ++ pinsAt fp s.heap) σ H s :=
  I.pins_of fun p hp => (List.mem_append.mp hp).elim (fun z => I.pin p (List.mem_append_right _ z)) fun z => by
    obtain ⟨hb, e⟩ := of_pinsAt z
    obtain ⟨f0, f1, f2, _⟩ := hf p.1 hb
    obtain ⟨o, e', d⟩ := ho p.1 hb
    rw [e] at e'; cases e'
    exact ⟨e, f0, f1, f2, d⟩
theorem Inv.unpinned {pins pl : List (Addr × Obj)} {σ : St} {H : Hp} {s : Shared} (I : Inv X (pins ++ pl) σ H s) : Inv X pins σ H s := I.pins_of fun p hp => I.pin p (List.mem_append_right _ (List.mem_append_left _ hp))
theorem ps_for {iter : Expr} {body : List Stmt} {wi : TI} {g : TG} {tb : TS} {pos : Pos} (hp : PassesOwn (model X.prog X.w) X.A X.env X.xe) (hc : X.calm = true) (hi : PI X tg iter wi) (hg : PG X tg g) (hb : PSs X body tb)
    (hs : ∀ x, foldedSetIterable iter X.env x = pure x := by intro _; rfl) : PS X (.For tg iter body [] pos) (tFor wi g tb) := by
  intro pins s σ H D I h
  refine wpAny_For (thn (hi pins s σ H _ I h) fun v s1 h1 => thn h1 fun itv s2 h2 => ?_) hs
  obtain ⟨it, fp, tn, J, H2, e, I2, T, st2, f2, W, ⟨m0, w0⟩, turn⟩ := h2
  subst e
  -- what stays true of the iterator's objects through the loop
  have stat : ∀ {H' : Hp}, (∀ b ∈ fp, H' b = none) → ∀ b ∈ fp, FpOk X pins H' b := fun hn b hb => ⟨hn b hb, (f2 b hb).2⟩
  refine codeAny_forLoop_any (fun n s' => ∃ i σ' H', Inv X pins σ' H' s' ∧ tn i s'.heap ∧ (∀ b ∈ fp, H' b = none) ∧ W i n σ' H') ?_ m0 ⟨0, σ, H2, I2, st2, fun b hb => (f2 b hb).1, w0⟩
  rintro n s3 ⟨i, σ3, H3, I3, st3, fr3, w3⟩
  rcases turn i n σ3 H3 w3 with ⟨stop, qn⟩ | ⟨go, N, hN, step⟩
  · refine wpAny_passesOwn hp (thn (T.done X rfl rfl rfl hc i pins s3 σ3 H3 X.xe I3 (stat fr3) st3 stop) fun r s4 ⟨hr, I4⟩ => ?_)
    subst hr
    exact wpAny_execs_nil ⟨σ3, H3, I4, qn⟩
  · refine wpAny_passesOwn hp (thn (T.item X rfl rfl rfl hc i pins s3 σ3 H3 X.xe I3 (stat fr3) st3 go) fun r s4 ⟨u, hr, h4⟩ => ?_)
    subst hr
    refine wpAny_passesOwn hp (thn h4 fun _ s5 ⟨x, H5, I5, r5, y5, st5, fr5⟩ => ?_)
    have I5' := I5.pinned (stat fr5) (T.obj _ _ st5)
    refine wpAny_passesOwn hp (thn (hg _ s5 σ3 H5 x u _ I5' r5 (step x H5 y5)) fun _ s6 ⟨σ6, H6, I6, q6⟩ => ?_)
    refine wpAny_passesOwn hp (thn (hb _ s6 σ6 H6 _ I6 q6) fun f s7 q7 => ?_)
    have again : ∀ {σ7 : St} {H7 : Hp}, Inv X (pins ++ pinsAt fp s5.heap) σ7 H7 s7 → N σ7 H7 → ∃ m, m < n ∧ ∃ i σ' H', Inv X pins σ' H' s7 ∧ tn i s7.heap ∧ (∀ b ∈ fp, H' b = none) ∧ W i m σ' H' := fun {σ7 H7} I7 n7 => by
      obtain ⟨m', hm, w7⟩ := hN σ7 H7 n7
      refine ⟨m', hm, i + 1, σ7, H7, I7.unpinned, T.keep _ _ _ st5 fun b hb o e => (I7.pin (b, o) (List.mem_append_right _ (List.mem_append_right _ (mem_pinsAt hb e)))).1, fun b hb => ?_, w7⟩
      obtain ⟨o, e, d⟩ := T.obj _ _ st5 b hb
      exact (I7.pin (b, o) (List.mem_append_right _ (List.mem_append_right _ (mem_pinsAt hb e)))).2.1
    cases f with
    | next => obtain ⟨σ7, H7, I7, n7⟩ := q7; exact again I7 n7
    | cont => obtain ⟨σ7, H7, I7, n7⟩ := q7; exact again I7 n7
    | brk => obtain ⟨σ7, H7, I7, q7⟩ := q7; exact ⟨σ7, H7, I7.unpinned, q7⟩
    | ret v => obtain ⟨x7, σ7, H7, I7, r7, q7⟩ := q7; exact ⟨x7, σ7, H7, I7.unpinned, r7, q7⟩
end

end L2

namespace L2
open PySem PySem.Spec PyProof.Rows

noncomputable abbrev R2 := V → V → Hp → VK → Prop
noncomputable def OpR (X : Cx) (f : Value → Value → Sem Value) (r : R2) : Prop :=
  ∀ (pins : List (Addr × Obj)) (s : Shared) (σ : St) (H : Hp) (x y : V) (v u : Value) (Q : VK), Inv X pins σ H s → RelV x v → RelV y u → r x y H Q →
    wpAny (model X.prog X.w) X.A (f v u) (EP X pins σ Q) X.xe s
noncomputable def UnR (X : Cx) (f : Value → Sem Value) (r : V → Hp → VK → Prop) : Prop :=
  ∀ (pins : List (Addr × Obj)) (s : Shared) (σ : St) (H : Hp) (x : V) (v : Value) (Q : VK), Inv X pins σ H s → RelV x v → r x H Q →
    wpAny (model X.prog X.w) X.A (f v) (EP X pins σ Q) X.xe s
noncomputable def CallR (X : Cx) (f : Value) (r : List V → Hp → VK → Prop) : Prop :=
  ∀ (pins : List (Addr × Obj)) (s : Shared) (σ : St) (H : Hp) (xs : List V) (us : List Value) (Q : VK), Inv X pins σ H s → Vals xs us → r xs H Q →
    wpAny (model X.prog X.w) X.A (call f us) (EP X pins σ Q) X.xe s
noncomputable def TruR (X : Cx) (r : V → Hp → (Bool → Hp → Prop) → Prop) : Prop :=
  ∀ (pins : List (Addr × Obj)) (s : Shared) (σ : St) (H : Hp) (x : V) (v : Value) (Q : Bool → Hp → Prop), Inv X pins σ H s → RelV x v → r x H Q →
    wpAny (model X.prog X.w) X.A (truthy v) (TP X pins σ Q) X.xe s

noncomputable def tOp (r : R2) (ta tb : TE) : TE := fun σ H Q => ta σ H fun x H1 => tb σ H1 fun y H2 => r x y H2 Q
noncomputable def rI (C : Int → Int → Prop) (g : Int → Int → V) : R2 := fun x y H Q => ∃ i j, x = .int i ∧ y = .int j ∧ C i j ∧ Q (g i j) H
noncomputable def rI0 (g : Int → Int → V) : R2 := fun x y H Q => ∃ i j, x = .int i ∧ y = .int j ∧ Q (g i j) H
noncomputable def rU (g : Int → V) : V → Hp → VK → Prop := fun x H Q => ∃ i, x = .int i ∧ Q (g i) H

section
variable {X : Cx} {a b c : Expr} {ta tb tc : TE} {pos : Pos}

theorem binT (ha : PE X a ta) (hb : PE X b tb) {pins : List (Addr × Obj)} {s : Shared} {σ : St} {H : Hp} {R : V → V → Hp → Prop} (I : Inv X pins σ H s)
    (h : ta σ H fun x H1 => tb σ H1 fun y H2 => R x y H2) {Q : Value → Shared → Prop} {f : Value → Value → Sem Value}
    (hf : ∀ v u s2 x y H2, Inv X pins σ H2 s2 → RelV x v → RelV y u → R x y H2 → wpAny (model X.prog X.w) X.A (f v u) Q X.xe s2) :
    wpAny (model X.prog X.w) X.A (eval a X.env) (fun v s₁ => wpAny (model X.prog X.w) X.A (eval b X.env) (fun u s₂ => wpAny (model X.prog X.w) X.A (f v u) Q X.xe s₂) X.xe s₁) X.xe s := by
  refine thn (ha pins s σ H _ I h) fun v s1 ⟨x, H1, I1, r1, q1⟩ => ?_
  refine thn (hb pins s1 σ H1 _ I1 q1) fun u s2 ⟨y, H2, I2, r2, q2⟩ => ?_
  exact hf v u s2 x y H2 I2 r1 r2 q2

theorem opI {f : Value → Value → Sem Value} {C : Int → Int → Prop} {g : Int → Int → Int}
    (rule : ∀ (i j : Int) (t u : Tok) (s : Shared) (Q : Value → Shared → Prop) (E : Value → Shared → Prop), C i j → Q (.int (g i j) s.toks) { s with toks := s.toks + 1 } → wpAny (model X.prog X.w) X.A (f (.int i t) (.int j u)) Q E s) :
    OpR X f (rI C fun i j => .int (g i j)) := by
  intro pins s σ H x y v u Q I rx ry h
  obtain ⟨i, j, rfl, rfl, hc, q⟩ := h
  obtain ⟨t, rfl⟩ := rx
  obtain ⟨t', rfl⟩ := ry
  exact rule i j t t' s _ _ hc ⟨.int (g i j), H, I.tok _, ⟨_, rfl⟩, q⟩
theorem opI0 {f : Value → Value → Sem Value} {g : Int → Int → Int}
    (rule : ∀ (i j : Int) (t u : Tok) (s : Shared) (Q : Value → Shared → Prop) (E : Value → Shared → Prop), Q (.int (g i j) s.toks) { s with toks := s.toks + 1 } → wpAny (model X.prog X.w) X.A (f (.int i t) (.int j u)) Q E s) :
    OpR X f (rI0 fun i j => .int (g i j)) := by
  intro pins s σ H x y v u Q I rx ry h
  obtain ⟨i, j, rfl, rfl, q⟩ := h
  obtain ⟨t, rfl⟩ := rx
  obtain ⟨t', rfl⟩ := ry
  exact rule i j t t' s _ _ ⟨.int (g i j), H, I.tok _, ⟨_, rfl⟩, q⟩
theorem opB0 {f : Value → Value → Sem Value} {g : Int → Int → Bool}
    (rule : ∀ (i j : Int) (t u : Tok) (s : Shared) (Q : Value → Shared → Prop) (E : Value → Shared → Prop), Q (.bool (g i j)) s → wpAny (model X.prog X.w) X.A (f (.int i t) (.int j u)) Q E s) :
    OpR X f (rI0 fun i j => .bl (g i j)) := by
  intro pins s σ H x y v u Q I rx ry h
  obtain ⟨i, j, rfl, rfl, q⟩ := h
  obtain ⟨t, rfl⟩ := rx
  obtain ⟨t', rfl⟩ := ry
  exact rule i j t t' s _ _ ⟨.bl (g i j), H, I, rfl, q⟩

noncomputable def CDiv (i j : Int) : Prop := 0 < j ∧ j < 1073741824
noncomputable def CPow (i j : Int) : Prop := 0 ≤ j ∧ j ≤ 1000000 ∧ i.natAbs < 2 ^ 64
noncomputable def CMul (i j : Int) : Prop := (-(2 ^ 64) < i ∧ i < 2 ^ 64) ∨ (-(2 ^ 64) < j ∧ j < 2 ^ 64)
theorem CMul.ok {i j : Int} (h : CMul i j) : IntMulOk i j := by
  rcases h with ⟨h1, h2⟩ | ⟨h1, h2⟩
  · exact .of_left (intBits_le_64 h1 h2)
  · exact .of_right (intBits_le_64 h1 h2)
theorem op_add : OpR X (binaryOp .Add) (rI0 fun i j => .int (i + j)) := opI0 fun _ _ _ _ _ _ _ q => add_int q
theorem op_sub : OpR X (binaryOp .Sub) (rI0 fun i j => .int (i - j)) := opI0 fun _ _ _ _ _ _ _ q => sub_int q
theorem op_mul : OpR X (binaryOp .Mult) (rI CMul fun i j => .int (i * j)) := opI fun _ _ _ _ _ _ _ hc q => mul_int q hc.ok
theorem op_fdiv : OpR X (binaryOp .FloorDiv) (rI CDiv fun i j => .int (i / j)) := opI fun i j _ _ _ _ _ hc q => by
  have h1 : (0 : Int) < j := hc.1
  have h2 : j < 1073741824 := hc.2
  exact floordiv_int (by omega) (by rw [Int.fdiv_eq_ediv_of_nonneg i (by omega)]; exact q) (.inl (PyProof.noPylong_small (by omega)))
theorem op_mod : OpR X (binaryOp .Mod) (rI (fun _ j => 0 < j) fun i j => .int (i % j)) := opI fun i j _ _ _ _ _ hc q => by
  have h1 : (0 : Int) < j := hc
  exact mod_int' (by omega) (by rw [Int.fmod_eq_emod_of_nonneg i (by omega)]; exact q)
theorem op_pow : OpR X (binaryOp .Pow) (rI CPow fun i j => .int (i ^ j.toNat)) := opI fun _ _ _ _ _ _ _ hc q => pow_int_small hc.1 hc.2.1 hc.2.2 q
theorem unI {f : Value → Sem Value} {g : Int → Int}
    (rule : ∀ (i : Int) (t : Tok) (s : Shared) (Q : Value → Shared → Prop) (E : Value → Shared → Prop), Q (.int (g i) s.toks) { s with toks := s.toks + 1 } → wpAny (model X.prog X.w) X.A (f (.int i t)) Q E s) :
    UnR X f (rU fun i => .int (g i)) := by
  intro pins s σ H x v Q I rx h
  obtain ⟨i, rfl, q⟩ := h
  obtain ⟨t, rfl⟩ := rx
  exact rule i t s _ _ ⟨.int (g i), H, I.tok _, ⟨_, rfl⟩, q⟩
theorem un_neg : UnR X (unaryOp .USub) (rU fun i => .int (-i)) := unI fun _ _ _ _ _ q => neg_int q
end

section
variable {X : Cx} {a b c : Expr} {ta tb tc : TE} {pos : Pos}
theorem fin_bl {pins : List (Addr × Obj)} {σ : St} {H : Hp} {s : Shared} {Q : VK} {k k' : Bool} (I : Inv X pins σ H s) (q : Q (.bl k) H) (e : k = k') : EP X pins σ Q (.bool k') s := by
  subst e
  exact ⟨.bl k, H, I, rfl, q⟩
theorem op_lt : OpR X (compareOp .Lt) (rI0 fun i j => .bl (decide (i < j))) := opB0 fun _ _ _ _ _ _ _ q => lt_int q
theorem op_le : OpR X (compareOp .LtE) (rI0 fun i j => .bl (decide (i ≤ j))) := opB0 fun _ _ _ _ _ _ _ q => le_int q
theorem op_gt : OpR X (compareOp .Gt) (rI0 fun i j => .bl (decide (j < i))) := opB0 fun _ _ _ _ _ _ _ q => gt_int q
theorem op_ge : OpR X (compareOp .GtE) (rI0 fun i j => .bl (decide (j ≤ i))) := opB0 fun _ _ _ _ _ _ _ q => ge_int q
theorem op_in_str : OpR X (compareOp .In) (fun x y H Q => ∃ i j, x = .str i ∧ y = .str j ∧ Q (.bl (!(Builtin.Str.occurrences j i 0 j.length 1).isEmpty)) H) := by
  intro pins s σ H x y v u Q I rx ry h
  obtain ⟨i, j, rfl, rfl, q⟩ := h
  obtain ⟨t, rfl⟩ := rx
  obtain ⟨t', rfl⟩ := ry
  exact in_str (fin_bl I q rfl)

theorem op_notin_str : OpR X (compareOp .NotIn) (fun x y H Q => ∃ i j, x = .str i ∧ y = .str j ∧ Q (.bl (!(!(Builtin.Str.occurrences j i 0 j.length 1).isEmpty))) H) := by
  intro pins s σ H x y v u Q I rx ry h
  obtain ⟨i, j, rfl, rfl, q⟩ := h
  obtain ⟨t, rfl⟩ := rx
  obtain ⟨t', rfl⟩ := ry
  exact notIn_str (fin_bl I q rfl)
theorem OpR.or {f : Value → Value → Sem Value} {r r' : R2} (h : OpR X f r) (h' : OpR X f r') : OpR X f (fun x y H Q => r x y H Q ∨ r' x y H Q) := by
  intro pins s σ H x y v u Q I rx ry q
  rcases q with q | q
  · exact h pins s σ H x y v u Q I rx ry q
  · exact h' pins s σ H x y v u Q I rx ry q

noncomputable def TruV (K : PySem.W.Frag) (x : V) (H : Hp) (k : Bool) : Prop :=
  match x with
  | .non => k = false
  | .bl b => k = b
  | .int i => k = (i != 0)
  | .str y => y.length ≤ sizeLine ∧ k = ((y.length : Int) != 0)
  | .byt y => y.size ≤ sizeLine ∧ k = ((y.size : Int) != 0)
  | .ref p => (∃ xs, SqL K H p xs ∧ k = !xs.isEmpty) ∨ (∃ xs, SqT K H p xs ∧ k = !xs.isEmpty) ∨ ∃ kvs, H p = some (.dK kvs) ∧ k = !kvs.isEmpty
  | _ => False
theorem isEmpty_kv {κ : Type} {kvs : List (κ × V)} {vs : List (κ × Value)} (r : KV kvs vs) : (!vs.isEmpty) = !kvs.isEmpty := by
  cases r <;> rfl
theorem isEmpty_of {xs : List V} {its : List Value} (r : Vals xs its) : (!its.toArray.isEmpty) = !xs.isEmpty := by
  cases r <;> simp
theorem line63 : (sizeLine : Nat) < 2 ^ 63 := by rw [sizeLine_eq]; decide
theorem tru_ok : TruR X (fun x H Q => ∃ k, TruV X.K x H k ∧ Q k H) := by
  intro pins s σ H x v Q I rx h
  obtain ⟨k, e, q⟩ := h
  have hl := line63
  have hs : sizeLine = 16777216 := sizeLine_eq
  cases x with
  | non =>
    cases rx
    have e' : k = false := e
    subst e'
    exact truthy_none ⟨H, I, q⟩
  | bl b =>
    cases rx
    have e' : k = b := e
    subst e'
    exact wpAny_truthy_bool ⟨H, I, q⟩
  | int i =>
    obtain ⟨t, rfl⟩ := rx
    have e' : k = (i != 0) := e
    subst e'
    exact PySem.P.truthy_int ⟨H, I, q⟩
  | str y =>
    obtain ⟨t, rfl⟩ := rx
    obtain ⟨hy, e'⟩ : y.length ≤ sizeLine ∧ k = ((y.length : Int) != 0) := e
    subst e'
    exact PySem.P.truthy_str (by omega) ⟨H, I.tok _, q⟩
  | byt y =>
    obtain ⟨t, rfl⟩ := rx
    obtain ⟨hy, e'⟩ : y.size ≤ sizeLine ∧ k = ((y.size : Int) != 0) := e
    subst e'
    exact PySem.W.truthy_bytes (by omega) ⟨H, I.tok _, q⟩
  | ref p =>
    cases rx
    have e' : (∃ xs, SqL X.K H p xs ∧ k = !xs.isEmpty) ∨ (∃ xs, SqT X.K H p xs ∧ k = !xs.isEmpty) ∨ ∃ kvs, H p = some (.dK kvs) ∧ k = !kvs.isEmpty := e
    rcases e' with ⟨xs, hx, e'⟩ | ⟨xs, hx, e'⟩ | ⟨kvs, hx, e'⟩
    · subst e'
      obtain ⟨its, r, pl, hz⟩ := I.list hx
      have hlen := r.length
      exact wpAny_truthy_list pl.isList (by simp only [List.size_toArray]; omega) ⟨H, I.tok _, by rw [isEmpty_of r]; exact q⟩
    · subst e'
      obtain ⟨its, r, pl, hz⟩ := I.tuple hx
      have hlen := r.length
      exact truthy_tuple pl (by simp only [List.size_toArray]; omega) ⟨H, I.tok _, by rw [isEmpty_of r]; exact q⟩
    · subst e'
      obtain ⟨hz, hS, vs, r, m⟩ : kvs.length ≤ sizeLine ∧ (p == sysModules) = false ∧ ∃ vs, KV kvs vs ∧ s.heap.DictOf (mixKind X.prog X.w) p vs := I.hok p _ hx
      have hlen : kvs.length = vs.length := Paired.length r
      exact wpAny_truthy_dict hS m (by omega) ⟨H, I.tok _, by rw [isEmpty_kv r]; exact q⟩
  | _ => exact (show False from e).elim
theorem op_add_str : OpR X (binaryOp .Add) (fun x y H Q => ∃ i j, x = .str i ∧ y = .str j ∧ i.length + j.length ≤ sizeLine ∧ Q (.str (i ++ j)) H) := by
  intro pins s σ H x y v u Q I rx ry h
  obtain ⟨i, j, rfl, rfl, hz, q⟩ := h
  obtain ⟨t, rfl⟩ := rx
  obtain ⟨t', rfl⟩ := ry
  exact add_str (fun t' tk => ⟨.str (i ++ j), H, I.tok _, ⟨_, rfl⟩, q⟩) hz
theorem vals1 {x : V} {us : List Value} (r : Vals [x] us) : ∃ u, us = [u] ∧ RelV x u := by
  cases r with
  | cons r1 r2 => cases r2; exact ⟨_, rfl, r1⟩
theorem vals2 {x y : V} {us : List Value} (r : Vals [x, y] us) : ∃ u w', us = [u, w'] ∧ RelV x u ∧ RelV y w' := by
  cases r with
  | cons r1 r2 =>
    cases r2 with
    | cons r3 r4 => cases r4; exact ⟨_, _, rfl, r1, r3⟩
theorem call_str_int : CallR X (.type "str") (fun xs H Q => ∃ i, xs = [.int i] ∧ i.natAbs.log2 < 1920 ∧ Q (.str (toString i)) H) := by
  intro pins s σ H xs us Q I r h
  obtain ⟨i, rfl, hz, q⟩ := h
  obtain ⟨u, rfl, t, rfl⟩ := vals1 r
  exact PySem.P.str_of_int hz ⟨.str _, H, I.tok _, ⟨_, rfl⟩, q⟩
theorem call_ord : CallR X (.builtin "ord") (fun xs H Q => ∃ x, xs = [.str x] ∧ x.length = 1 ∧ Q (.int (x.cps.getD 0 0 : Nat)) H) := by
  intro pins s σ H xs us Q I r h
  obtain ⟨x, rfl, hz, q⟩ := h
  obtain ⟨u, rfl, t, rfl⟩ := vals1 r
  exact ord_of_one hz ⟨.int _, H, I.tok _, ⟨_, rfl⟩, q⟩
noncomputable def LenV (K : PySem.W.Frag) (x : V) (H : Hp) (n : Nat) : Prop :=
  match x with
  | .str y => y.length ≤ sizeLine ∧ n = y.length
  | .byt y => y.size ≤ sizeLine ∧ n = y.size
  | .ref p => (∃ xs, SqL K H p xs ∧ n = xs.length) ∨ ∃ xs, SqT K H p xs ∧ n = xs.length
  | _ => False
theorem call_len : CallR X (.builtin "len") (fun xs H Q => ∃ x n, xs = [x] ∧ LenV X.K x H n ∧ Q (.int n) H) := by
  intro pins s σ H xs us Q I r h
  obtain ⟨x, n, rfl, e, q⟩ := h
  obtain ⟨u, rfl, rx⟩ := vals1 r
  have hl := line63
  have hs : sizeLine = 16777216 := sizeLine_eq
  cases x with
  | str y =>
    obtain ⟨t, rfl⟩ := rx
    obtain ⟨hy, e'⟩ : y.length ≤ sizeLine ∧ n = y.length := e
    subst e'
    exact len_str (by omega) ⟨.int _, H, I.tok _, ⟨_, rfl⟩, q⟩
  | byt y =>
    obtain ⟨t, rfl⟩ := rx
    obtain ⟨hy, e'⟩ : y.size ≤ sizeLine ∧ n = y.size := e
    subst e'
    exact PySem.W.len_bytes (by omega) ⟨.int _, H, I.tok _, ⟨_, rfl⟩, q⟩
  | ref p =>
    cases rx
    have e' : (∃ xs, SqL X.K H p xs ∧ n = xs.length) ∨ ∃ xs, SqT X.K H p xs ∧ n = xs.length := e
    rcases e' with ⟨xs, hx, e'⟩ | ⟨xs, hx, e'⟩
    · subst e'
      obtain ⟨its, r', pl, hz⟩ := I.list hx
      have hlen := r'.length
      exact Calls.call_len_list pl.isList (by simp only [List.size_toArray]; omega) ⟨.int xs.length, H, I.tok _, ⟨_, by simp only [List.size_toArray]; rw [hlen]⟩, q⟩
    · subst e'
      obtain ⟨its, r', pl, hz⟩ := I.tuple hx
      have hlen := r'.length
      exact len_tuple pl (by simp only [List.size_toArray]; omega) ⟨.int xs.length, H, I.tok _, ⟨_, by simp only [List.size_toArray]; rw [hlen]⟩, q⟩
  | _ => exact (show False from e).elim
end
end L2

namespace L2
open PySem PySem.Spec PyProof.Rows

structure ObjM (h : Heap) (x dx C : Addr) (mA : Str → Option Value) : Prop where
  obj : h.get? x = some (PySem.W.instObj C dx)
  ns : h.Ns1 dx mA
  ne : dx ≠ x

section
variable {prog : Program} {w : World} {A : Around} {E : Value → Shared → Prop} {s : Shared} {K : PySem.W.Frag} {x dx C f : Addr} {mA : Str → Option Value} {name : Str} {v : Value}

end

section
variable {P : Program} {w : World} {H H' : Hp} {h h' : Heap} {a C dx : Addr} {fs fs' : List (Str × V)}
end

structure Cls (K : PySem.W.Frag) (C : Addr) : Prop where
  pg : PySem.W.plainGet K C Str.empty = true
  hd : PySem.W.hasDictIn K C = true
  po : PySem.W.plainOver K C = true
  sa : PySem.W.findIn K (.ref C) "__setattr__" = some (some (.builtin "object.__setattr__"))
theorem Cls.get {K : PySem.W.Frag} {C : Addr} (c : Cls K C) (f : Str) : PySem.W.plainGet K C f = true := c.pg
structure Con (K : PySem.W.Frag) (C : Addr) (f : Str) (v : V) (u : Value) : Prop where
  at_ : PySem.W.findIn K (.ref C) f = some (some u)
  rel : RelV v u
  get : PySem.W.specialIn K u "__get__" = some none
  cp : PySem.W.copiedNames.contains f = false
structure Meth (K : PySem.W.Frag) (C : Addr) (m : Str) (f : Addr) : Prop where
  at_ : PySem.W.findIn K (.ref C) m = some (some (.ref f))
  fn : PySem.W.isFn K (.ref f) = true
  kp : PySem.W.keepIn K (.ref f) = true

section
variable {X : Cx} {pins : List (Addr × Obj)} {σ : St} {H : Hp} {s : Shared} {a C dx : Addr} {fs : List (Str × V)} {f : Str} {v : V} {A : Around} {E : Value → Shared → Prop}

theorem Inv.made (I : Inv X pins σ H s) : Inv X pins σ (upd (upd H s.heap.objs.size (.own (s.heap.objs.size + 1))) (s.heap.objs.size + 1) (.ins C s.heap.objs.size []))
    { s with heap := (s.heap.push PySem.W.emptyDict).push (PySem.W.instObj C s.heap.objs.size) } := by
  have e1 : (s.heap.push PySem.W.emptyDict).get? s.heap.objs.size = some PySem.W.emptyDict := Heap.get?_push_size s.heap rfl
  have e2 : ((s.heap.push PySem.W.emptyDict).push (PySem.W.instObj C s.heap.objs.size)).get? (s.heap.objs.size + 1) = some (PySem.W.instObj C s.heap.objs.size) := by
    have := Heap.get?_push_size (s.heap.push PySem.W.emptyDict) (o := PySem.W.instObj C s.heap.objs.size) rfl
    rwa [Heap.size_push] at this
  have e3 : (s.heap.push PySem.W.emptyDict).Ns s.heap.objs.size (fun _ => none) := ⟨PySem.W.emptyDict, #[], _, e1, rfl, (fun e he => absurd he (by simp)), fun _ => rfl⟩
  have I1 := I.laid (a := s.heap.objs.size) (o := .own (s.heap.objs.size + 1)) (h' := s.heap.push PySem.W.emptyDict) (t' := s.toks) (fun b u q => Heap.get?_push_of_some _ q) (Nat.le_refl _) ⟨_, e1⟩
  refine I1.laid (a := s.heap.objs.size + 1) (o := .ins C s.heap.objs.size []) (t' := s.toks) (fun b u q => Heap.get?_push_of_some _ q) (Nat.le_of_eq (Heap.size_push _ _)) ?_
  have ne : s.heap.objs.size ≠ s.heap.objs.size + 1 := Nat.ne_of_lt (Nat.lt_succ_self _)
  refine ⟨by rw [upd_ne ne, upd_same], Nat.zero_le _, ne, e2, fun _ => none, (Heap.Ns1.of_empty e3).at fun o q => Heap.get?_push_of_some _ q, fun _ => True.intro, fun y hy => absurd rfl hy⟩

end

section
variable {X : Cx} {o e value : Expr} {f : Str} {pos pos' tpos : Pos} {ta tv : TE}
end

section
variable {X : Cx} {pins : List (Addr × Obj)} {σ : St} {H : Hp} {s : Shared} {A : Around} {E : Value → Shared → Prop} {Q : Value → Shared → Prop} {c : Value} {b : Bool}
inductive TyOf (K : PySem.W.Frag) (H : Hp) : V → Value → Prop where
  | non : TyOf K H .non (.type "NoneType")
  | bl (x : Bool) : TyOf K H (.bl x) (.type "bool")
  | int (i : Int) : TyOf K H (.int i) (.type "int")
  | str (x : Str) : TyOf K H (.str x) (.type "str")
  | flt (x : UInt64) : TyOf K H (.flt x) (.type "float")
  | lst {a : Addr} {xs : List V} (e : H a = some (.lst xs)) : TyOf K H (.ref a) (.type "list")
  | frz {a : Addr} {o : Obj} {xs : List V} (e : H a = some (.frz o (.lst xs))) : TyOf K H (.ref a) (.type "list")
  | tup {a : Addr} {xs : List V} (e : H a = some (.tup xs)) : TyOf K H (.ref a) (.type "tuple")
  | dK {a : Addr} {kvs : List (Key × V)} (e : H a = some (.dK kvs)) : TyOf K H (.ref a) (.type "dict")
  | dT {a : Addr} {kvs : List (List Key × V)} (e : H a = some (.dT kvs)) : TyOf K H (.ref a) (.type "dict")
  | ins {a C dx : Addr} {fs : List (Str × V)} (e : H a = some (.ins C dx fs)) (cl : Cls K C) (ha : PySem.W.findIn K (.ref C) "__class__" = some (some (.builtin "object.__class__")))
      (hn : PySem.W.specialIn K (.builtin "object.__class__") "__get__" = some (some (.builtin "getset_descriptor.__get__"))) (htk : PySem.W.takesIn K (.builtin "object.__class__") = some true)
      (hm : PySem.W.mroIn K C (.type "object") = some true) : TyOf K H (.ref a) (.ref C)
end
end L2

namespace L2
open PySem PySem.Spec PyProof.Rows

structure Room (k : Nat) (A : Around) : Prop where
  hd : A.handled = none
  dp : A.depth + 3 * k + 5 < recursionLimit
  un : A.units + 16 * k + 200 < cLine
theorem Room.mono {j k : Nat} {A : Around} (r : Room k A) (h : j ≤ k) : Room j A := ⟨r.hd, by have := r.dp; omega, by have := r.un; omega⟩
theorem Room.deeper {k : Nat} {A : Around} (r : Room (k + 1) A) (env : Env) : Room k (A.deeper env) :=
  ⟨r.hd, by have := r.dp; show A.depth + 1 + 3 * k + 5 < _; omega, by have := r.un; show A.units + 3 + 16 * k + 200 < _; omega⟩
theorem Room.in1 {k : Nat} {A : Around} (r : Room (k + 1) A) : Room k A.in1 :=
  ⟨r.hd, by have := r.dp; show A.depth + 3 * k + 5 < _; omega, by have := r.un; show A.units + 1 + 16 * k + 200 < _; omega⟩
theorem make_depth {A : Around} {C : Addr} {us : List Value} {kw : List (Str × Value)} : (A.under (.builtin "type.__call__" ⟨.ref C :: us, kw⟩)).depth = A.depth + 1 := by
  first | rfl | simp [Around.under, Code.weight, Code.isCreation, Code.isGuard, Code.isCaller, Code.frames, Code.isFrame, guardIds]
theorem make_units {A : Around} {C : Addr} {us : List Value} {kw : List (Str × Value)} : (A.under (.builtin "type.__call__" ⟨.ref C :: us, kw⟩)).units = A.units + 1 := by
  first | rfl | simp [Around.under, Code.cUnits, Code.frames, Code.isFrame]
theorem Room.make {k : Nat} {A : Around} (r : Room (k + 1) A) (C : Addr) (us : List Value) (kw : List (Str × Value)) : Room k (A.under (.builtin "type.__call__" ⟨.ref C :: us, kw⟩)) :=
  ⟨r.hd, by have := r.dp; rw [make_depth]; omega, by have := r.un; rw [make_units]; omega⟩
theorem Room.depth {k : Nat} {A : Around} (r : Room k A) : A.depth < recursionLimit := by have := r.dp; omega
theorem Room.units {k : Nat} {A : Around} (r : Room k A) : A.units + 64 < cLine := by have := r.un; omega
noncomputable def tNil : TA := fun _ H Q => Q [] H
noncomputable def tCons (ta : TE) (tr : TA) : TA := fun σ H Q => ta σ H fun x H1 => tr σ H1 fun xs H2 => Q (x :: xs) H2
section
variable {X : Cx} {e : Expr} {es : List Expr} {te : TE} {t : TA} {pos : Pos}
theorem pa_nil : PA X [] tNil := fun _ _ _ _ H Q I h => Calls.spliced_nil ⟨[], H, I, .nil, h⟩
theorem pa_cons (ha : PE X e te) (hr : PA X es t) (hs : starEach (e :: es) X.env = (false, eval e X.env) :: starEach es X.env := by rfl) : PA X (e :: es) (tCons te t) := by
  intro pos pins s σ H Q I h
  rw [hs]
  show wpAny _ _ (spliced ((false, eval e X.env) :: backTo pos (starEach es X.env))) _ _ s
  refine Calls.spliced_cons (thn (ha pins s σ H _ I h) fun u s1 ⟨x, H1, I1, r1, q1⟩ => ?_)
  exact thn (hr pos pins s1 σ H1 _ I1 q1) fun us s2 ⟨xs, H2, I2, r2, q2⟩ => ⟨x :: xs, H2, I2, .cons r1 r2, q2⟩

noncomputable def tTup (t : TA) : TE := fun σ H Q => t σ H fun xs H1 => xs.length ≤ sizeLine ∧ ∀ p, H1 p = none → Q (.ref p) (upd H1 p (.tup xs))
noncomputable def tLst (t : TA) : TE := fun σ H Q => t σ H fun xs H1 => xs.length ≤ sizeLine ∧ ∀ p, H1 p = none → Q (.ref p) (upd H1 p (.lst xs))
theorem pe_tup {x1} (h : PA X es t) : PE X (.Tuple es x1 pos) (tTup t) := by
  intro pins s σ H Q I hq
  refine wpAny_Tuple_spliced (thn (h pos pins s σ H _ I hq) fun us s1 ⟨xs, H1, I1, r, z, q⟩ => ⟨by rw [← r.length]; exact z, ?_⟩)
  have hf : H1 s1.heap.objs.size = none := I1.hok.fresh (Nat.le_refl _)
  refine ⟨.ref s1.heap.objs.size, upd H1 s1.heap.objs.size (.tup xs), I1.laid (t' := s1.toks) (fun b u e => Heap.get?_push_of_some _ e) (Nat.le_refl _) ?_, rfl, q _ hf⟩
  exact ⟨z, us, r, ⟨_, Heap.get?_push_size _ rfl, rfl, _, rfl⟩⟩
theorem pe_lst (h : PA X es t) : PE X (.List es pos) (tLst t) := by
  intro pins s σ H Q I hq
  refine wpAny_List_spliced (thn (h pos pins s σ H _ I hq) fun us s1 ⟨xs, H1, I1, r, z, q⟩ => ⟨by rw [← r.length]; exact z, ?_⟩)
  have hf : H1 s1.heap.objs.size = none := I1.hok.fresh (Nat.le_refl _)
  refine ⟨.ref s1.heap.objs.size, upd H1 s1.heap.objs.size (.lst xs), I1.laid (t' := s1.toks) (fun b u e => Heap.get?_push_of_some _ e) (Nat.le_refl _) ?_, rfl, q _ hf⟩
  exact ⟨z, us, 0, r, Heap.get?_push_size _ rfl⟩
end

noncomputable abbrev Sp := List V → Hp → VK → XK → Prop
noncomputable abbrev CXT := List Env → Hp → Shared → XK → Value → Shared → Prop

structure Env0 (P : Program) (w : World) (K : PySem.W.Frag) (mg : Str → Option Value) (base : Heap) (A : Around) (outer : List Env) (s : Shared) (H : Hp) : Prop where
  frames : A.frames = some outer
  mod : Mod K mg base
  bs : ∀ b o, base.get? b = some o → s.heap.get? b = some o ∧ H b = none
  bsz : base.objs.size ≤ s.heap.objs.size
  funs : s.heap.FunFrames base outer
  frf : ∀ b ∈ frs outer, H b = none
  hok : HOk P w H s.heap
  bare : AllBare s.gens
noncomputable def CE (outer : List Env) (P : Program) (w : World) (H : Hp) (s : Shared) (Q : VK) (u : Value) (s' : Shared) : Prop :=
  ∃ v H', s'.os = s.os ∧ AllBare s'.gens ∧ Un (frs outer) [] H H' s.heap s'.heap ∧ HOk P w H' s'.heap ∧ RelV v u ∧ Q v H'
noncomputable def CR (CX : CXT) (outer : List Env) (P : Program) (w : World) (H : Hp) (s : Shared) (Q : VK) (E : XK) (r : Result) (s' : Shared) : Prop :=
  match r with
  | .ok (.ret u) => CE outer P w H s Q u s'
  | .ok _ => False
  | .error e => CX outer H s E e s'
structure FnOk (P : Program) (w : World) (K : PySem.W.Frag) (mg : Str → Option Value) (base : Heap) (CX : CXT) (k : Nat) (f : Addr) (fd : FuncData) (ps : List Str) (sp : Sp) : Prop where
  len : ∀ vs H Q E, sp vs H Q E → vs.length = ps.length
  run : ∀ (A : Around) (outer : List Env) (s : Shared) (H : Hp) (args : Args) (us : List Value) (vs : List V) (Q : VK) (E : XK), Room k A → Env0 P w K mg base A outer s H → BindsTo s fd args (ps.zip us) → Vals vs us → sp vs H Q E →
    codeAny (model P w) A (.call (.ref f) args) (CR CX outer P w H s Q E) s
theorem FnOk.mono {P : Program} {w : World} {K : PySem.W.Frag} {mg : Str → Option Value} {base : Heap} {CX : CXT} {j k : Nat} {f : Addr} {fd : FuncData} {ps : List Str} {sp : Sp} (F : FnOk P w K mg base CX j f fd ps sp) (h : j ≤ k) :
    FnOk P w K mg base CX k f fd ps sp := ⟨F.len, fun A outer s H args us vs Q E hr => F.run A outer s H args us vs Q E (hr.mono h)⟩
theorem FnOk.imp {P : Program} {w : World} {K : PySem.W.Frag} {mg : Str → Option Value} {base : Heap} {CX : CXT} {k : Nat} {f : Addr} {fd : FuncData} {ps : List Str} {sp sp' : Sp} (F : FnOk P w K mg base CX k f fd ps sp)
    (h : ∀ vs H Q E, sp' vs H Q E → sp vs H Q E) : FnOk P w K mg base CX k f fd ps sp' :=
  ⟨fun vs H Q E q => F.len vs H Q E (h _ _ _ _ q), fun A outer s H args us vs Q E hr he hb hv hs => F.run A outer s H args us vs Q E hr he hb hv (h _ _ _ _ hs)⟩

theorem Env0.make {P : Program} {w : World} {K : PySem.W.Frag} {mg : Str → Option Value} {base : Heap} {A : Around} {outer : List Env} {s : Shared} {H : Hp} (e : Env0 P w K mg base A outer s H) (C : Addr) (us : List Value) (kw : List (Str × Value)) :
    Env0 P w K mg base (A.under (.builtin "type.__call__" ⟨.ref C :: us, kw⟩)) outer s H := ⟨by first | exact e.frames | (simpa [Around.under, Code.envs, Code.isFrame, pushEnvs] using e.frames), e.mod, e.bs, e.bsz, e.funs, e.frf, e.hok, e.bare⟩
theorem Env0.in1 {P : Program} {w : World} {K : PySem.W.Frag} {mg : Str → Option Value} {base : Heap} {A : Around} {outer : List Env} {s : Shared} {H : Hp} (e : Env0 P w K mg base A outer s H) :
    Env0 P w K mg base A.in1 outer s H := ⟨e.frames, e.mod, e.bs, e.bsz, e.funs, e.frf, e.hok, e.bare⟩

section
variable {X : Cx} {pins : List (Addr × Obj)} {σ : St} {H : Hp} {s s' : Shared}
theorem Inv.env0 (I : Inv X pins σ H s) : Env0 X.prog X.w X.K X.mg X.base X.A X.stack s H :=
  ⟨I.ok.frames, I.ok.mod, I.bs, Nat.le_trans I.ok.bsz I.sz, I.stack, I.stkFree, I.hok, I.bare⟩
theorem Inv.after {Q : VK} {u : Value} (I : Inv X pins σ H s) (h : CE X.stack X.prog X.w H s Q u s') : EP X pins σ Q u s' := by
  obtain ⟨v, H', os, bare, un, hok, r, q⟩ := h
  obtain ⟨hh, g, d, t, os'⟩ := s'
  obtain rfl : os' = s.os := os
  exact ⟨v, H', I.call (h' := hh) (g' := g) (d' := d) (t' := t) (ch := []) un hok bare (fun b z => absurd z (by simp)), r, q⟩
end

noncomputable def tCall (sp : Sp) (dvs : List V) (E : XK) (t : TA) : TE := fun σ H Q => t σ H fun vs H1 => sp (vs ++ dvs) H1 Q E
noncomputable def Binds (K : PySem.W.Frag) (fd : FuncData) (ps : List Str) (ds : List Value) : Prop :=
  ∀ (s : Shared) (us : List Value), K.In s.heap → (us ++ ds).length = ps.length → BindsTo s fd ⟨us, []⟩ (ps.zip (us ++ ds))
theorem Binds.all {K : PySem.W.Frag} {fd : FuncData} {ps : List Str} (h : ∀ us : List Value, us.length = ps.length → bindArgs fd ⟨us, []⟩ = pure (ps.zip us)) : Binds K fd ps [] := fun s us _ hl => by
  rw [List.append_nil] at hl ⊢
  exact .of_eq (h us hl)

noncomputable def Passes (CX : CXT) (X : Cx) (E : XK) : Prop := ∀ (pins : List (Addr × Obj)) (σ : St) (H : Hp) (s : Shared) (e : Value) (s' : Shared), Inv X pins σ H s → CX X.stack H s E e s' → X.xe e s'

section
variable {X : Cx} {CX : CXT} {k : Nat} {f C : Addr} {fd : FuncData} {ps : List Str} {sp : Sp} {dvs : List V} {ds : List Value} {E : XK} {x m : Str} {p pos apos : Pos} {e o : Expr} {es : List Expr} {ta : TE} {t : TA}

theorem run_fn {pins : List (Addr × Obj)} {σ : St} {H : Hp} {s : Shared} {Q : VK} {us : List Value} {vs : List V} (F : FnOk X.prog X.w X.K X.mg X.base CX k f fd ps sp) (hr : Room k X.A) (hb : Binds X.K fd ps ds) (hd : Vals dvs ds) (hx : Passes CX X E)
    (I : Inv X pins σ H s) (r : Vals vs us) (h : sp (vs ++ dvs) H Q E) : wpAny (model X.prog X.w) X.A (call (.ref f) us) (EP X pins σ Q) X.xe s := by
  have r2 : Vals (vs ++ dvs) (us ++ ds) := r.append hd
  have hl : (us ++ ds).length = ps.length := by rw [← r2.length]; exact F.len _ _ _ _ h
  refine wpAny_call (codeAny_mono (F.run X.A X.stack s H ⟨us, []⟩ (us ++ ds) (vs ++ dvs) Q E hr I.env0 (hb s us I.kIn hl) r2 h) fun r s' hq => ?_)
  cases r with
  | error e => exact hx pins σ H s e s' I hq
  | ok fl =>
    cases fl with
    | ret u => exact I.after hq
    | next => exact False.elim hq
    | brk => exact False.elim hq
    | cont => exact False.elim hq

theorem pe_call (F : FnOk X.prog X.w X.K X.mg X.base CX k f fd ps sp) (hr : Room k X.A) (hg : Gl X x) (hm : X.mg x = some (.ref f)) (hk : PySem.W.keepIn X.K (.ref f) = true) (hb : Binds X.K fd ps ds) (hd : Vals dvs ds) (hx : Passes CX X E)
    (ha : PA X (e :: es) t) (hdb : (x == ("__debug__" : Str)) = false := by decide) (he : starEach (e :: es) X.env = (false, eval e X.env) :: starEach es X.env := by rfl) (hpl : (backTo pos (starEach es X.env)).any (·.1) = false := by rfl) :
    PE X (.Call (.Name x p) (e :: es) [] pos) (tCall sp dvs E t) := by
  intro pins s σ H Q I h
  refine wpAny_Call_Name_kw (ld_glob I hg hm ?_ hdb)
  refine PySem.W.callWith_K (h₀ := X.base) I.ok.mod.kin hk (thn (ha pos pins s σ H _ I h) fun us s1 ⟨vs, H1, I1, r, q⟩ => ⟨I1.kIn, ?_⟩) he hpl
  exact run_fn F hr hb hd hx I1 r q
structure Mk (K : PySem.W.Frag) (C f : Addr) : Prop where
  makes : PySem.W.makesIn K C = true
  init : PySem.W.findIn K (.ref C) "__init__" = some (some (.ref f))
  fn : PySem.W.isFn K (.ref f) = true
  kp : PySem.W.keepIn K (.ref C) = true

end

section
variable {X : Cx} {CX : CXT} {k : Nat} {f C : Addr} {fd : FuncData} {ps ks : List Str} {sp : Sp} {E : XK} {x m : Str} {p pos apos kpos : Pos} {e o : Expr} {es : List Expr} {kws : List Keyword} {te ta : TE} {t tk : TA} {nm : Option Str}
structure KBinds (K : PySem.W.Frag) (fd : FuncData) (ps ks : List Str) (g : List Value → List Value → List Value) (gV : List V → List V → List V) : Prop where
  to : ∀ (s : Shared) (us ws : List Value), K.In s.heap → (g us ws).length = ps.length → BindsTo s fd ⟨us, ks.zip ws⟩ (ps.zip (g us ws))
  rel : ∀ {vs : List V} {us : List Value} {zs : List V} {ws : List Value}, Vals vs us → Vals zs ws → Vals (gV vs zs) (g us ws)
variable {g : List Value → List Value → List Value} {gV : List V → List V → List V}
end

structure FnScope (N P : List Str) (sc : Scope) : Prop where
  kind : sc.kind = .function
  co : sc.isCoroutine = false
  gen : sc.isGenerator = false
  nd : N.Nodup
  pre : N.take P.length = P
  par : ∀ x ∈ P, sc.names.lookup x = some .local ∨ sc.names.lookup x = some .cell
  nofree : ∀ y ∈ sc.names, y.2 ≠ .free

theorem bindL_out {kindOf : Str → Option NameKind} {x : Str} : ∀ {binds : List (Str × Value)} {m : Str → Option Value}, (∀ v, (x, v) ∉ binds) → bindL kindOf binds m x = m x
  | [], _, _ => rfl
  | (n, v) :: r, m, h => by
    unfold bindL
    rw [bindL_out fun w hw => h w (List.mem_cons_of_mem _ hw)]
    split
    · have : x ≠ n := by rintro rfl; exact h v List.mem_cons_self
      simp [this]
    · rfl
theorem bindC_out {kindOf : Str → Option NameKind} {x : Str} : ∀ {binds : List (Str × Value)} {m : Str → Option Value}, (∀ v, (x, v) ∉ binds) → bindC kindOf binds m x = m x
  | [], _, _ => rfl
  | (n, v) :: r, m, h => by
    unfold bindC
    rw [bindC_out fun w hw => h w (List.mem_cons_of_mem _ hw)]
    split
    · rfl
    · have : x ≠ n := by rintro rfl; exact h v List.mem_cons_self
      simp [this]
theorem bindL_get {kindOf : Str → Option NameKind} {x : Str} {v : Value} : ∀ {P : List Str} {vs : List Value} {i : Nat} {m : Str → Option Value}, P.Nodup → P[i]? = some x → vs[i]? = some v → kindOf x = some .local →
    bindL kindOf (P.zip vs) m x = some v
  | [], _, _, _, _, h, _, _ => by simp at h
  | _ :: _, [], _, _, _, _, h, _ => by simp at h
  | p :: P, w :: vs, 0, m, nd, h1, h2, hk => by
    simp at h1 h2; subst h1; subst h2
    show bindL kindOf ((p, w) :: P.zip vs) m p = _
    unfold bindL
    rw [bindL_out fun v hv => (List.nodup_cons.mp nd).1 (List.of_mem_zip hv).1, if_pos hk]
    simp
  | p :: P, w :: vs, i + 1, m, nd, h1, h2, hk => by
    show bindL kindOf ((p, w) :: P.zip vs) m x = _
    unfold bindL
    exact bindL_get (i := i) (List.nodup_cons.mp nd).2 (by simpa using h1) (by simpa using h2) hk
theorem bindC_get {kindOf : Str → Option NameKind} {x : Str} {v : Value} : ∀ {P : List Str} {vs : List Value} {i : Nat} {m : Str → Option Value}, P.Nodup → P[i]? = some x → vs[i]? = some v → kindOf x ≠ some .local →
    bindC kindOf (P.zip vs) m x = some v
  | [], _, _, _, _, h, _, _ => by simp at h
  | _ :: _, [], _, _, _, _, h, _ => by simp at h
  | p :: P, w :: vs, 0, m, nd, h1, h2, hk => by
    simp at h1 h2; subst h1; subst h2
    show bindC kindOf ((p, w) :: P.zip vs) m p = _
    unfold bindC
    rw [bindC_out fun v hv => (List.nodup_cons.mp nd).1 (List.of_mem_zip hv).1, if_neg hk]
    simp
  | p :: P, w :: vs, i + 1, m, nd, h1, h2, hk => by
    show bindC kindOf ((p, w) :: P.zip vs) m x = _
    unfold bindC
    exact bindC_get (i := i) (List.nodup_cons.mp nd).2 (by simpa using h1) (by simpa using h2) hk

noncomputable def start (N : List Str) (vs : List V) : St := vs.map some ++ List.replicate (N.length - vs.length) none

noncomputable def cxOf (CX : CXT) (P : Program) (w : World) (K : PySem.W.Frag) (mg : Str → Option Value) (base : Heap) (N : List Str) (qual : Str) (scope : Scope) (f : Addr) (cd : Value) (A : Around) (outer : List Env) (s : Shared) (H : Hp) (E : XK) : Cx where
  prog := P
  w := w
  K := K
  mg := mg
  base := base
  A := A.deeper (envOfC qual scope s.heap.objs.size f cd)
  N := N
  s₀ := s
  H₀ := H
  env := envOfC qual scope s.heap.objs.size f cd
  outer := outer
  stack := envOfC qual scope s.heap.objs.size f cd :: outer
  ex := []
  calm := true
  fn := fun _ => true
  pn := []
  xe := fun e s' => wpAny (model P w) (A.deeper (envOfC qual scope s.heap.objs.size f cd)) (leaving (envOfC qual scope s.heap.objs.size f cd) e) (fun _ s'' => CX outer H s E e s'') (fun e' s'' => CX outer H s E e' s'') s'

theorem cell_has {sc : Scope} {n : Nat} {x : Str} (h : sc.names.lookup x = some .cell) : ∃ c, (cellsFrom n sc.names []).lookup x = some c := by
  have q := PySem.W.cellsFrom_some sc.names n [] (.inl h)
  exact Option.isSome_iff_exists.mp q

theorem inv_start {CX : CXT} {P : Program} {w : World} {K : PySem.W.Frag} {mg : Str → Option Value} {base : Heap} {N ps : List Str} {qual : Str} {scope : Scope} {f : Addr} {cd : Value} {A : Around} {outer : List Env} {s s1 : Shared} {H : Hp} {E : XK} {us : List Value} {vs : List V}
    (S : FnScope N ps scope) (hd : A.handled = none) (e0 : Env0 P w K mg base A outer s H) (hl : vs.length = ps.length) (r : Vals vs us)
    (x : InCallC s s.heap.objs.size (bindL (envOfC qual scope s.heap.objs.size f cd).kindOf (ps.zip us) fun _ => none) (cellsFrom (s.heap.objs.size + 1) scope.names []) (bindC (envOfC qual scope s.heap.objs.size f cd).kindOf (ps.zip us) fun _ => none) s1) :
    Inv (cxOf CX P w K mg base N qual scope f cd A outer s H E) [] (start N vs) H s1 := by
  have hpl : ps.length ≤ N.length := by have := congrArg List.length S.pre; rw [List.length_take] at this; omega
  obtain ⟨h1, tk, rfl, hk⟩ := x.done
  have noA : ∀ b : Addr, b ∉ (cxOf CX P w K mg base N qual scope f cd A outer s H E).ex := fun b z => absurd (show b ∈ ([] : List Addr) from z) (by simp)
  refine ⟨⟨e0.mod, S.kind, rfl, rfl, Nat.le_refl _, fun y z c h1 h2 => ?_, fun y hy => ?_, fun y c _ h => ?_, fun _ => hd, Around.frames_deeper e0.frames, .inr ⟨rfl, rfl⟩, fun b z => absurd z (noA b), e0.bs, e0.bsz, fun b _ _ => noA b, fun b z => absurd z (noA b), e0.funs, e0.frf⟩,
    rfl, e0.bare, Un.kept hk, ⟨_, x.toInCall.ns, fun i y v h1 h2 h3 => ?_⟩, fun y c h => ⟨_, x.cell y c h⟩, e0.hok.fresh (Nat.le_refl _), fun y c h => ?_, fun p hp => absurd (show p ∈ ([] : List (Addr × Obj)) from hp) (by simp), e0.hok.kept hk, ?_⟩
  · exact name_of_addr x.apart (PySem.mem_of_lookup h1) (PySem.mem_of_lookup h2)
  · have hy : scope.names.lookup y = some .cell ∨ scope.names.lookup y = some .free := hy
    rcases hy with hy | hy
    · exact cell_has hy
    · exact absurd rfl (S.nofree _ (PySem.mem_of_lookup hy))
  · exact Nat.le_of_lt (x.above y c (PySem.mem_of_lookup h))
  · have hi : i < vs.length := by
      unfold start at h2
      by_cases hi : i < vs.length
      · exact hi
      · rw [List.getElem?_append_right (by simpa using hi)] at h2
        rw [List.getElem?_replicate] at h2
        split at h2 <;> cases h2
    have ha : vs[i]? = some v := by
      unfold start at h2
      rw [List.getElem?_append_left (by simpa using hi), List.getElem?_map] at h2
      cases e : vs[i]? with
      | none => rw [e] at h2; cases h2
      | some a => rw [e] at h2; cases h2; rfl
    obtain ⟨u, hu, rv⟩ := r.get ha
    have hp : ps[i]? = some y := by
      rw [← S.pre, List.getElem?_take_of_lt (by omega)]; exact h1
    have ndP : ps.Nodup := by rw [← S.pre]; exact S.nd.sublist (List.take_sublist _ _)
    refine ⟨u, rv, ?_⟩
    rcases S.par y (List.mem_of_getElem? hp) with k | k
    · exact .inl ⟨k, bindL_get ndP hp hu k⟩
    · obtain ⟨c, e⟩ := cell_has (n := s.heap.objs.size + 1) k
      refine .inr ⟨.inl k, c, e, ?_⟩
      have q := x.cell y c e
      rw [bindC_get ndP hp hu (by show scope.names.lookup y ≠ _; rw [k]; decide)] at q
      exact q
  · exact e0.hok.fresh (Nat.le_of_lt (x.above y c (PySem.mem_of_lookup h)))
  · unfold start
    show _ = N.length
    rw [List.length_append, List.length_map, List.length_replicate]
    omega

theorem fn_of {CX : CXT} {P : Program} {w : World} {K : PySem.W.Frag} {mg : Str → Option Value} {base : Heap} {k : Nat} {f : Addr} {name qual : Str} {params : Arguments} {body : List Stmt} {scope : Scope} {dV kV doc pm cdv ct oc : Value} {an od : Option Addr}
    {osl : Array (Option Value)} {N ps : List Str} {sp : Sp} (lk : K.lookup f = some ⟨oc, od, .func (PySem.W.fnOf name qual params body scope dV kV doc pm an cdv ct), osl⟩) (hcd : PySem.W.codeIn K cdv qual = true) (S : FnScope N ps scope)
    (len : ∀ vs H Q E, sp vs H Q E → vs.length = ps.length)
    (hbody : ∀ (A : Around) (outer : List Env) (s : Shared) (H : Hp) (vs : List V) (Q : VK) (E : XK), Room k (A.deeper (envOfC qual scope s.heap.objs.size f cdv)) → sp vs H Q E →
      ∃ t, PSs (cxOf CX P w K mg base N qual scope f cdv A outer s H E) body t ∧ t { nx := fun _ H' => Q .non H', rt := Q } (start N vs) H) :
    FnOk P w K mg base CX (k + 1) f (PySem.W.fnOf name qual params body scope dV kV doc pm an cdv ct) ps sp := by
  refine ⟨len, fun A outer s H args us vs Q E hr e0 hb r hsp => ?_⟩
  have hl := len _ _ _ _ hsp
  have KX : K.In s.heap := e0.mod.kin.keeps fun b o e => (e0.bs b o e).1
  have lim : s.heap.NoLimit := e0.mod.nolimit.keeps fun b o e => (e0.bs b o e).1
  have hkind : ∀ y ∈ ps.zip us, scope.names.lookup y.1 = some .local ∨ (scope.names.lookup y.1 = some .cell ∧ ((cellsFrom (s.heap.objs.size + 1) scope.names []).lookup y.1).isSome = true) := fun ⟨n, v⟩ hy => by
    rcases S.par n (List.of_mem_zip hy).1 with q | q
    · exact .inl q
    · exact .inr ⟨q, PySem.W.cellsFrom_some _ _ _ (.inl q)⟩
  refine codeAny_call_function hr.depth (KX _ _ lk) rfl S.co S.gen rfl (PySem.W.codeRec_of KX hcd) (hb _ _ _ _ ?_)
  refine wpAny_newFunctionEnv_cells S.kind hkind fun env he s1 x => ?_
  subst he
  refine ⟨lim.keeps x.toInCall.keep, codeAny_func ?_⟩
  obtain ⟨t, ht, hq⟩ := hbody A outer s H vs Q E (hr.deeper _) hsp
  have I : Inv (cxOf CX P w K mg base N qual scope f cdv A outer s H E) [] (start N vs) H s1 := inv_start S hr.hd e0 hl r x
  refine wpAny_mono (ht [] s1 (start N vs) H _ I hq) (fun fl s' hs => ?_) fun e s' hs => hs
  have fin : ∀ {σ' : St} {H' : Hp} {v : V} {u : Value}, Inv (cxOf CX P w K mg base N qual scope f cdv A outer s H E) [] σ' H' s' → RelV v u → Q v H' → CE outer P w H s Q u s' :=
    fun {σ' H' v u} J rv q => ⟨v, H', J.os, J.bare, J.base, J.hok, rv, q⟩
  cases fl with
  | ret u =>
    obtain ⟨v, σ', H', J, rv, q⟩ := hs
    exact fin J rv q
  | next =>
    obtain ⟨σ', H', J, q⟩ := hs
    exact fin (v := V.non) (u := Value.none) J rfl q
  | brk =>
    obtain ⟨_, _, _, q⟩ := hs
    exact False.elim q
  | cont =>
    obtain ⟨_, _, _, q⟩ := hs
    exact False.elim q
end L2

namespace L2
open PySem PySem.Spec PyProof.Rows
section
variable {X : Cx} {x : Str} {p pos : Pos} {e : Expr} {es : List Expr} {t : TA} {id T : String} {r : List V → Hp → VK → Prop}

noncomputable def tCB (r : List V → Hp → VK → Prop) (t : TA) : TE := fun σ H Q => t σ H fun vs H1 => r vs H1 Q
theorem pe_callB (hc : CallR X (.builtin id) r) (hg : Gl X x) (hm : X.mg x = none) (hv : bootBuiltins x = some (.builtin id)) (ha : PA X (e :: es) t) (hn : x ≠ "__name__" := by decide) (hdb : (x == ("__debug__" : Str)) = false := by decide)
    (he : starEach (e :: es) X.env = (false, eval e X.env) :: starEach es X.env := by rfl) (hpl : (backTo pos (starEach es X.env)).any (·.1) = false := by rfl) : PE X (.Call (.Name x p) (e :: es) [] pos) (tCB r t) := by
  intro pins s σ H Q I h
  refine wpAny_Call_Name_kw (ld_blt I hg hm hv ?_ hn hdb)
  exact PyProof.Rows.callWith_builtin1 (thn (ha pos pins s σ H _ I h) fun us s1 ⟨vs, H1, I1, r1, q1⟩ => hc pins s1 σ H1 vs us Q I1 r1 q1) he hpl
end
end L2

namespace HT
open PySem PyProof.Rows

section
open PySem.SeqAt
open PySem.AutoSeq1 (wpAny_loadPart')
open PySem.MeetsSeq PySem.MeetsSeq2 PySem.MeetsSeq3

end

section
variable {prog : Program} {w : World} {A : Around} {E : Value → Shared → Prop} {s : Shared}

noncomputable def sIx (n d : Nat) : Option Int → Nat
  | none => d
  | some v => if v < 0 then (v + (n : Int)).toNat else min v.toNat n
theorem sIx_none (n d : Nat) : sIx n d none = d := rfl
theorem sIx_nat (n d k : Nat) : sIx n d (some (k : Int)) = min k n := by
  show (if (k : Int) < 0 then ((k : Int) + (n : Int)).toNat else min (k : Int).toNat n) = min k n
  rw [if_neg (by omega), Int.toNat_natCast]
theorem sIx_le (n d : Nat) (hd : d ≤ n) (o : Option Int) : sIx n d o ≤ n := by
  cases o with
  | none => exact hd
  | some v =>
    show (if v < 0 then (v + (n : Int)).toNat else min v.toNat n) ≤ n
    by_cases hv : v < 0
    · rw [if_pos hv]; omega
    · rw [if_neg hv]; exact Nat.min_le_right _ _
theorem clip_eq (v : Int) (n d : Nat) : (if v < 0 then max (v + (n : Int)) 0 else min v (n : Int)) = ((sIx n d (some v) : Nat) : Int) := by
  show (if v < 0 then max (v + (n : Int)) 0 else min v (n : Int)) = (((if v < 0 then (v + (n : Int)).toNat else min v.toNat n) : Nat) : Int)
  by_cases hv : v < 0
  · simp only [if_pos hv]; omega
  · simp only [if_neg hv]; omega
end
end HT

namespace L2
open PySem PySem.Spec PyProof.Rows

noncomputable abbrev TO := St → Hp → (Option Int → Hp → Prop) → Prop
noncomputable def PO (X : Cx) (e : Option Expr) (t : TO) : Prop :=
  ∀ (pins : List (Addr × Obj)) (s : Shared) (σ : St) (H : Hp) (Q : Option Int → Hp → Prop), Inv X pins σ H s → t σ H Q →
    wpAny (model X.prog X.w) X.A (evalPart e X.env) (fun u s' => ∃ o H', Inv X pins σ H' s' ∧ IsPart u o ∧ Q o H') X.xe s
noncomputable def tNoPart : TO := fun _ H Q => Q none H
noncomputable def tPart (t : TE) : TO := fun σ H Q => t σ H fun x H1 => ∃ i, x = .int i ∧ Q (some i) H1

section
variable {X : Cx} {e : Expr} {te : TE} {lo hi : Option Expr} {tl th : TO} {pos p2 : Pos}

theorem po_none : PO X none tNoPart := by
  intro pins s σ H Q I h
  rw [evalPart_none]
  exact wpAny_pure ⟨none, H, I, .none, h⟩
theorem po_some (h : PE X e te) : PO X (some e) (tPart te) := by
  intro pins s σ H Q I hw
  rw [evalPart_some]
  refine thn (h pins s σ H _ I hw) fun u s1 ⟨x, H1, I1, r1, q1⟩ => ?_
  obtain ⟨i, rfl, q⟩ := q1
  obtain ⟨t, rfl⟩ := r1
  exact ⟨some i, H1, I1, .int i t, q⟩

noncomputable def SlR (X : Cx) (r : V → Option Int → Option Int → Hp → VK → Prop) : Prop :=
  ∀ (pins : List (Addr × Obj)) (s : Shared) (σ : St) (H : Hp) (x : V) (v vl vu : Value) (lo hi : Option Int) (sl : Addr) (Q : VK), Inv X pins σ H s → RelV x v → s.heap.IsSliceOf sl vl vu .none → IsPart vl lo → IsPart vu hi → r x lo hi H Q →
    ∃ T id, typeLookup (.type T) "__getitem__" = pure (some (.builtin id)) ∧ s.TypeIs v T ∧ wpAny (model X.prog X.w) X.A (getItem v (.ref sl)) (EP X pins σ Q) X.xe s
theorem SlR.or {r r' : V → Option Int → Option Int → Hp → VK → Prop} (h : SlR X r) (h' : SlR X r') : SlR X (fun x lo hi H Q => r x lo hi H Q ∨ r' x lo hi H Q) := by
  intro pins s σ H x v vl vu lo hi sl Q I rx hs pl pu q
  rcases q with q | q
  · exact h pins s σ H x v vl vu lo hi sl Q I rx hs pl pu q
  · exact h' pins s σ H x v vl vu lo hi sl Q I rx hs pl pu q
noncomputable def tSl (r : V → Option Int → Option Int → Hp → VK → Prop) (te : TE) (tl th : TO) : TE := fun σ H Q => te σ H fun x H1 => tl σ H1 fun l H2 => th σ H2 fun u H3 => r x l u H3 Q
theorem pe_slice {r : V → Option Int → Option Int → Hp → VK → Prop} (hr : SlR X r) (he : PE X e te) (hl : PO X lo tl) (hu : PO X hi th) : PE X (.Subscript e (.Slice lo hi none p2) pos) (tSl r te tl th) := by
  intro pins s σ H Q I h
  refine Subscript_ (thn (he pins s σ H _ I h) fun v s1 ⟨x, H1, I1, r1, q1⟩ => ?_)
  refine wpAny_Slice (thn (hl pins s1 σ H1 _ I1 q1) fun vl s2 ⟨l, H2, I2, pl, q2⟩ => thn (hu pins s2 σ H2 _ I2 q2) fun vu s3 ⟨u, H3, I3, pu, q3⟩ => ?_)
  rw [evalPart_none]
  refine wpAny_pure ?_
  have I4 : Inv X pins σ H3 { s3 with heap := s3.heap.push { cls := .type "slice", data := .fields #[vl, vu, .none] } } := I3.kept (t' := s3.toks) fun b ob q => Heap.get?_push_of_some _ q
  obtain ⟨T, id, hT, ht, hg⟩ := hr pins { s3 with heap := s3.heap.push { cls := .type "slice", data := .fields #[vl, vu, .none] } } σ H3 x v vl vu l u s3.heap.objs.size Q I4 r1 (Heap.IsSliceOf.new ..) pl pu q3
  show wpAny (model X.prog X.w) X.A (subscriptTail e (.Slice lo hi none p2) v (.ref s3.heap.objs.size)) (EP X pins σ Q) X.xe { s3 with heap := s3.heap.push { cls := .type "slice", data := .fields #[vl, vu, .none] } }
  exact tail_any (ops := [.ref s3.heap.objs.size, v]) ht hT hg (by with_unfolding_all rfl)

noncomputable def cutV (xs : List V) (lo hi : Option Int) : List V := (xs.drop (HT.sIx xs.length 0 lo)).take (HT.sIx xs.length xs.length hi - HT.sIx xs.length 0 lo)
theorem cutV_length (xs : List V) (lo hi : Option Int) : (cutV xs lo hi).length ≤ xs.length := by
  unfold cutV
  rw [List.length_take, List.length_drop]
  omega
end
end L2

namespace L2
open PySem PySem.Spec PyProof.Rows

noncomputable def ixN (n : Nat) (i : Int) : Option Nat := if 0 ≤ i then (if i < n then some i.toNat else none) else if -(n : Int) ≤ i then some (i + n).toNat else none
noncomputable def atI {α : Type} (xs : List α) (i : Int) : Option α := (ixN xs.length i).bind fun j => xs[j]?
theorem ixN_seq {n : Nat} {i : Int} {j : Nat} (h : ixN n i = some j) : seqIndex? i n = some j ∧ j < n ∧ -(n : Int) ≤ i ∧ i < n := by
  unfold ixN at h
  by_cases h0 : 0 ≤ i
  · rw [if_pos h0] at h
    by_cases h1 : i < n
    · rw [if_pos h1] at h
      have e : i.toNat = j := Option.some.inj h
      exact ⟨by rw [seqIndex_of h0 h1, e], by omega, by omega, h1⟩
    · rw [if_neg h1] at h; cases h
  · rw [if_neg h0] at h
    by_cases h1 : -(n : Int) ≤ i
    · rw [if_pos h1] at h
      have e : (i + n).toNat = j := Option.some.inj h
      exact ⟨by rw [seqIndex_neg (by omega) h1, e], by omega, h1, by omega⟩
    · rw [if_neg h1] at h; cases h
theorem atI_get {α : Type} {xs : List α} {i : Int} {v : α} (h : atI xs i = some v) : ∃ j, seqIndex? i xs.length = some j ∧ xs[j]? = some v ∧ j < xs.length ∧ -(xs.length : Int) ≤ i ∧ i < xs.length := by
  unfold atI at h
  cases e : ixN xs.length i with
  | none => rw [e] at h; cases h
  | some j =>
    rw [e] at h
    obtain ⟨h1, h2, h3, h4⟩ := ixN_seq e
    exact ⟨j, h1, h, h2, h3, h4⟩
theorem atI_nat {α : Type} {xs : List α} {j : Nat} {v : α} (h : xs[j]? = some v) : atI xs (j : Int) = some v := by
  have hj : j < xs.length := (List.getElem?_eq_some_iff.mp h).1
  have e : ixN xs.length (j : Int) = some j := by
    unfold ixN
    rw [if_pos (by omega), if_pos (by omega)]; simp
  unfold atI; rw [e]; exact h
theorem atI_last {α : Type} (xs : List α) (v : α) : atI (xs ++ [v]) (-1) = some v := by
  have hl : (xs ++ [v]).length = xs.length + 1 := by simp
  have e : ixN (xs ++ [v]).length (-1) = some xs.length := by
    unfold ixN
    rw [hl, if_neg (by decide), if_pos (by omega)]
    congr 1
    omega
  unfold atI
  rw [e]
  show (xs ++ [v])[xs.length]? = some v
  simp

noncomputable def PlainIx (b : Expr) : Prop := ∀ o i, subscripted b false o i = operate [o, i] (getItem o i)
noncomputable def IxR (X : Cx) (r : R2) : Prop :=
  ∀ (value slice : Expr) (pins : List (Addr × Obj)) (s : Shared) (σ : St) (H : Hp) (x y : V) (v u : Value) (Q : VK), Inv X pins σ H s → RelV x v → RelV y u → r x y H Q →
    subscripted slice false v u = operate [v, u] (getItem v u) → wpAny (model X.prog X.w) X.A (subscriptTail value slice v u) (EP X pins σ Q) X.xe s
noncomputable def MtR (X : Cx) (id : String) (r : V → List V → Hp → VK → Prop) : Prop :=
  ∀ (pins : List (Addr × Obj)) (s : Shared) (σ : St) (H : Hp) (x : V) (xs : List V) (v : Value) (us : List Value) (Q : VK), Inv X pins σ H s → RelV x v → Vals xs us → r x xs H Q →
    wpAny (model X.prog X.w) X.A (call (.builtin id) (v :: us)) (EP X pins σ Q) X.xe s
section
variable {X : Cx} {a b : Expr} {ta tb : TE} {pos : Pos}
theorem IxR.or {r r' : R2} (h : IxR X r) (h' : IxR X r') : IxR X (fun x y H Q => r x y H Q ∨ r' x y H Q) := by
  intro value slice pins s σ H x y v u Q I rx ry q hs
  rcases q with q | q
  · exact h value slice pins s σ H x y v u Q I rx ry q hs
  · exact h' value slice pins s σ H x y v u Q I rx ry q hs
theorem MtR.or {id : String} {r r' : V → List V → Hp → VK → Prop} (h : MtR X id r) (h' : MtR X id r') : MtR X id (fun x xs H Q => r x xs H Q ∨ r' x xs H Q) := by
  intro pins s σ H x xs v us Q I rx rs q
  rcases q with q | q
  · exact h pins s σ H x xs v us Q I rx rs q
  · exact h' pins s σ H x xs v us Q I rx rs q
theorem pe_ix {r : R2} (hr : IxR X r) (ha : PE X a ta) (hb : PE X b tb) (hs : PlainIx b) : PE X (.Subscript a b pos) (tOp r ta tb) := by
  intro pins s σ H Q I h
  exact Subscript_ (binT ha hb I h fun v u s2 x y H2 I2 rx ry q => hr a b pins s2 σ H2 x y v u Q I2 rx ry q (hs _ _))

noncomputable def rIxL (K : PySem.W.Frag) : R2 := fun x y H Q => ∃ p xs i v, x = .ref p ∧ y = .int i ∧ SqL K H p xs ∧ atI xs i = some v ∧ Q v H
noncomputable def rIxT (K : PySem.W.Frag) : R2 := fun x y H Q => ∃ p xs i v, x = .ref p ∧ y = .int i ∧ SqT K H p xs ∧ atI xs i = some v ∧ Q v H
noncomputable def rIxS : R2 := fun x y H Q => ∃ z i c, x = .str z ∧ y = .int i ∧ z.length ≤ sizeLine ∧ atI z.cps.toList i = some c ∧ Q (.str ⟨#[c]⟩) H
theorem ix_list : IxR X (rIxL X.K) := by
  intro value slice pins s σ H x y v u Q I rx ry h hs
  obtain ⟨p, xs, i, z, rfl, rfl, hq, he, q⟩ := h
  cases rx
  obtain ⟨t, rfl⟩ := ry
  obtain ⟨its, r, pl, hz⟩ := I.list hq
  obtain ⟨j, h1, h2, h3, h4, h5⟩ := atI_get he
  obtain ⟨w, ew, rw'⟩ := r.get h2
  have hl := r.length
  have hn := line63
  have fin : EP X pins σ Q w s := ⟨z, H, I, rw', q⟩
  by_cases h0 : 0 ≤ i
  · have hj : i.toNat = j := by
      rw [seqIndex_of h0 h5] at h1
      exact Option.some.inj h1
    exact item_listR pl.isList h0 (by omega) (by rw [hj]; simpa using ew) fin hs
  · have hj : (i + (its.toArray.size : Int)).toNat = j := by
      rw [seqIndex_neg (by omega) h4] at h1
      rw [List.size_toArray, ← hl]
      exact Option.some.inj h1
    exact subscriptTail_builtinR (x := w) pl.isList.typeIs slot_list_getitem.lookup
      (wpAny_getItem_list_neg (Q := fun r s' => r = w ∧ EP X pins σ Q r s') pl.isList (by omega) (by rw [List.size_toArray] <;> omega) (by omega) (by rw [hj]; simpa using ew) ⟨rfl, fin⟩) hs
theorem ix_tup : IxR X (rIxT X.K) := by
  intro value slice pins s σ H x y v u Q I rx ry h hs
  obtain ⟨p, xs, i, z, rfl, rfl, hq, he, q⟩ := h
  cases rx
  obtain ⟨t, rfl⟩ := ry
  obtain ⟨its, r, pl, hz⟩ := I.tuple hq
  obtain ⟨j, h1, h2, h3, h4, h5⟩ := atI_get he
  obtain ⟨w, ew, rw'⟩ := r.get h2
  have hl := r.length
  have hn := line63
  have fin : EP X pins σ Q w s := ⟨z, H, I, rw', q⟩
  exact subscriptTail_builtinR (x := w) pl.typeIs slot_tuple_getitem.lookup
    (getItem_tuple (j := j) (Q := fun r s' => r = w ∧ EP X pins σ Q r s') pl (by omega) (by omega) (by rw [List.size_toArray, ← hl]; exact h1) (by simpa using ew) ⟨rfl, fin⟩) hs
theorem ix_str : IxR X rIxS := by
  intro value slice pins s σ H x y v u Q I rx ry h hs
  obtain ⟨z, i, c, rfl, rfl, hz, he, q⟩ := h
  obtain ⟨t, rfl⟩ := rx
  obtain ⟨t', rfl⟩ := ry
  obtain ⟨j, h1, h2, h3, h4, h5⟩ := atI_get he
  have hl : z.cps.toList.length = z.length := by simp [Str.length]
  rw [hl] at h1 h4 h5
  have hn := line63
  exact tail_any (typeIs_str s z t) slot_str_getitem.lookup (getItem_str (c := c) (by
    have e1 : decide (i < -(2 ^ 63 : Int)) = false := decide_eq_false (by omega)
    have e2 : decide (i ≥ 2 ^ 63) = false := decide_eq_false (by omega)
    rw [e1, e2, Bool.or_false]) (by rw [h1]; simpa using h2) ⟨.str ⟨#[c]⟩, H, I.tok _, ⟨_, rfl⟩, q⟩) hs
noncomputable def rIx (K : PySem.W.Frag) : R2 := fun x y H Q => rIxL K x y H Q ∨ rIxT K x y H Q ∨ rIxS x y H Q
theorem ix_seq : IxR X (rIx X.K) := ix_list.or (ix_tup.or ix_str)

theorem Inv.lst {pins : List (Addr × Obj)} {σ : St} {H : Hp} {s : Shared} {p : Addr} {xs : List V} (I : Inv X pins σ H s) (h : H p = some (.lst xs)) :
    ∃ (its : List Value) (n : Nat), Vals xs its ∧ s.heap.get? p = some { cls := .type "list", data := .seq its.toArray n } ∧ xs.length ≤ sizeLine := by
  obtain ⟨z, its, n, r, e⟩ := I.hok p _ h
  exact ⟨its, n, r, e, z⟩
theorem slice_bounds (lo hi : Option Int) (n : Nat) : (sliceBounds lo hi none n).1 = ((HT.sIx n 0 lo : Nat) : Int) ∧ (sliceBounds lo hi none n).2.1 = ((HT.sIx n n hi : Nat) : Int) ∧ (sliceBounds lo hi none n).2.2 = 1 := by
  refine ⟨?_, ?_, rfl⟩
  · cases lo with
    | none => simp [sliceBounds, HT.sIx]
    | some i =>
      simp only [sliceBounds, HT.sIx, Option.getD_none, show (1 : Int) > 0 by decide, if_true]
      by_cases h : i < 0
      · simp only [h, if_true] <;> omega
      · simp only [h, if_false] <;> omega
  · cases hi with
    | none => simp [sliceBounds, HT.sIx]
    | some i =>
      simp only [sliceBounds, HT.sIx, Option.getD_none, show (1 : Int) > 0 by decide, if_true]
      by_cases h : i < 0
      · simp only [h, if_true] <;> omega
      · simp only [h, if_false] <;> omega
theorem slicePick_cut (its : List Value) (lo hi : Option Int) : slicePick its.toArray lo hi none = ((its.drop (HT.sIx its.length 0 lo)).take (HT.sIx its.length its.length hi - HT.sIx its.length 0 lo)).toArray := by
  obtain ⟨h1, h2, h3⟩ := slice_bounds lo hi its.toArray.size
  unfold slicePick
  rw [h1, h2, h3]
  simp only [sliceRange_one, pick_run, List.size_toArray] <;> rfl
noncomputable def rSlL (K : PySem.W.Frag) : V → Option Int → Option Int → Hp → VK → Prop := fun x lo hi H Q => ∃ a xs, x = .ref a ∧ SqL K H a xs ∧ ∀ p, H p = none → Q (.ref p) (upd H p (.lst (cutV xs lo hi)))
theorem sl_list : SlR X (rSlL X.K) := by
  intro pins s σ H x v vl vu lo hi sl Q I rx hs pl pu h
  obtain ⟨a, xs, rfl, hx, q⟩ := h
  cases rx
  obtain ⟨its, r, ht, hz⟩ := I.list hx
  have hlen := r.length
  refine ⟨"list", _, slot_list_getitem.lookup, ht.isList.typeIs, ?_⟩
  refine wpAny_getItem_list_slice ht.isList hs pl pu .none (by simp) ?_ (by rw [List.size_toArray] <;> omega)
  rw [slicePick_cut, ← hlen]
  refine ⟨.ref s.heap.objs.size, _, I.laid (t' := s.toks) (o := .lst (cutV xs lo hi)) (fun b ob q => Heap.get?_push_of_some _ q) (Nat.le_refl _) ?_, rfl, q _ (I.hok.fresh (Nat.le_refl _))⟩
  exact ⟨Nat.le_trans (cutV_length xs lo hi) hz, _, 0, (r.drop (HT.sIx xs.length 0 lo)).take (HT.sIx xs.length xs.length hi - HT.sIx xs.length 0 lo), Heap.get?_push_size _ rfl⟩

theorem CallR.or {f : Value} {r r' : List V → Hp → VK → Prop} (h : CallR X f r) (h' : CallR X f r') : CallR X f (fun xs H Q => r xs H Q ∨ r' xs H Q) := by
  intro pins s σ H xs us Q I rs q
  rcases q with q | q
  · exact h pins s σ H xs us Q I rs q
  · exact h' pins s σ H xs us Q I rs q
noncomputable def tyV (K : PySem.W.Frag) (T : String) (x : V) (H : Hp) : Prop := match x with
  | .str _ => T = "str"
  | .int _ => T = "int"
  | .ref p => (T = "list" ∧ ∃ xs, SqL K H p xs) ∨ (T = "tuple" ∧ ∃ o, K.lookup p = some o ∧ o.cls = .type "tuple" ∧ o.dict = none) ∨
      (T = "dict" ∧ ((∃ kvs, H p = some (.dK kvs)) ∨ ∃ kvs, H p = some (.dT kvs))) ∨ (T = "set" ∧ ∃ S n, H p = some (.set S n))
  | _ => False
theorem tyV_is {pins : List (Addr × Obj)} {σ : St} {H : Hp} {s : Shared} {T : String} {x : V} {v : Value} (I : Inv X pins σ H s) (r : RelV x v) (ty : tyV X.K T x H) :
    s.TypeIs v T ∧ ∀ a, v = .ref a → ∃ ob, s.heap.get? a = some ob ∧ ob.dict = none := by
  cases x with
  | str z =>
    obtain ⟨t, rfl⟩ := r
    cases (show T = "str" from ty)
    exact ⟨typeIs_str s z t, fun _ e => nomatch e⟩
  | int i =>
    obtain ⟨t, rfl⟩ := r
    cases (show T = "int" from ty)
    exact ⟨typeIs_int s i t, fun _ e => nomatch e⟩
  | ref p =>
    cases r
    rcases ty with ⟨rfl, xs, hq⟩ | ⟨rfl, o, hk, hc, hd⟩ | ⟨rfl, hk⟩ | ⟨rfl, S, n, hk⟩
    · obtain ⟨its, _, pl, _⟩ := I.list hq
      refine ⟨pl.isList.typeIs, fun a e => ?_⟩
      cases e
      obtain ⟨o, n, e, c, hd, _⟩ := pl
      exact ⟨o, e, hd⟩
    · refine ⟨⟨o, I.kIn p o hk, hc⟩, fun a e => ?_⟩
      cases e
      exact ⟨o, I.kIn _ o hk, hd⟩
    · have z : ∃ o, s.heap.get? p = some o ∧ o.ExactDict := by
        rcases hk with ⟨kvs, hk⟩ | ⟨kvs, hk⟩
        · obtain ⟨_, _, _, _, o, _, _, e, ex, _⟩ := I.hok p _ hk
          exact ⟨o, e, ex⟩
        · obtain ⟨_, _, _, _, o, _, _, e, ex, _⟩ := I.hok p _ hk
          exact ⟨o, e, ex⟩
      obtain ⟨o, e, ex⟩ := z
      refine ⟨⟨o, e, ex.1⟩, fun a e2 => ?_⟩
      cases e2
      exact ⟨o, e, ex.2.1⟩
    · obtain ⟨o, _, _, _, e, ex, _⟩ := I.hok p _ hk
      refine ⟨⟨o, e, ex.1⟩, fun a e2 => ?_⟩
      cases e2
      exact ⟨o, e, ex.2.1⟩
  | _ => exact False.elim ty
noncomputable def tBM0 (K : PySem.W.Frag) (T : String) (r : V → List V → Hp → VK → Prop) (to : TE) : TE := fun σ H Q => to σ H fun x H1 => tyV K T x H1 ∧ r x [] H1 Q
noncomputable def tBM (K : PySem.W.Frag) (T : String) (r : V → List V → Hp → VK → Prop) (to : TE) (t : TA) : TE := fun σ H Q => to σ H fun x H1 => tyV K T x H1 ∧ t σ H1 fun xs H2 => r x xs H2 Q
variable {o e : Expr} {es : List Expr} {to : TE} {t : TA} {name : Str} {apos cpos : Pos} {T id : String} {r : V → List V → Hp → VK → Prop}
theorem pe_bm0 (pa : PlainAttrs T) (slot : Slot T name id) (hty : typeOf (.builtin id) = pure (.type "method_descriptor")) (hm : MtR X id r) (ho : PE X o to)
    (hbase : attributeBase o name X.env (eval o X.env) = eval o X.env := by rfl) (hline : (apos.endLine == cpos.line) = true := by rfl) : PE X (.Call (.Attribute o name apos) [] [] cpos) (tBM0 X.K T r to) := by
  intro pins s σ H Q I h
  refine wpAny_Call_method0_late hbase hline (thn (ho pins s σ H _ I h) fun v s1 ⟨x, H1, I1, r1, ty, q1⟩ => ?_)
  obtain ⟨h1, h2⟩ := tyV_is I1 r1 ty
  exact ⟨T, id, pa, slot, hty, h1, h2, Calls.callWith_builtin rfl (PySem.evalArgs_none (hm pins s1 σ H1 x [] v [] Q I1 r1 .nil q1))⟩
theorem pe_bm (pa : PlainAttrs T) (slot : Slot T name id) (hty : typeOf (.builtin id) = pure (.type "method_descriptor")) (hm : MtR X id r) (ho : PE X o to) (ha : PA X (e :: es) t)
    (hbase : attributeBase o name X.env (eval o X.env) = eval o X.env := by rfl)
    (hfew : ((backTo cpos (starEach (e :: es) X.env)).all (fun x => !x.1) && (backToKw cpos (keywordEach [] X.env)).all (fun x => x.1.isSome)
      && decide ((e :: es).length + ([] : List Keyword).length + (if ([] : List Keyword).isEmpty then 0 else 1) < 30)) = true := by rfl)
    (hline : (apos.endLine == cpos.line) = true := by rfl) (hs : starEach (e :: es) X.env = (false, eval e X.env) :: starEach es X.env := by rfl) (hplain : (backTo cpos (starEach es X.env)).any (·.1) = false := by rfl) :
    PE X (.Call (.Attribute o name apos) (e :: es) [] cpos) (tBM X.K T r to t) := by
  intro pins s σ H Q I h
  refine wpAny_Call_method_late hbase hfew hline rfl (thn (ho pins s σ H _ I h) fun v s1 ⟨x, H1, I1, r1, ty, q1⟩ => ?_)
  obtain ⟨h1, h2⟩ := tyV_is I1 r1 ty
  refine ⟨T, id, pa, slot, hty, h1, h2, ?_⟩
  have hA := ha cpos pins s1 σ H1 _ I1 q1
  rw [hs] at hA ⊢
  refine Calls.callWith_builtin (by show (false || (backTo cpos (starEach es X.env)).any (·.1)) = false; rw [hplain] <;> rfl) (Calls.evalArgs_plain ?_)
  exact thn hA fun us s2 ⟨vs, H2, I2, r2, q2⟩ => hm pins s2 σ H2 x vs v us Q I2 r1 r2 q2
end
end L2

namespace L2
open PySem PySem.Spec PyProof.Rows

noncomputable def MtM (X : Cx) (id : String) (r : V → List V → Hp → VK → Prop) : Prop :=
  ∀ (pins : List (Addr × Obj)) (s : Shared) (σ : St) (H : Hp) (x : V) (xs : List V) (v : Value) (us : List Value) (Q : VK), Inv X pins σ H s → RelV x v → Vals xs us → r x xs H Q →
    wpAny (model X.prog X.w) X.A (call (.builtin id) (v :: us)) (EP X pins σ Q) X.xe s

theorem Vals.one : ∀ {x : V} {us : List Value}, Vals [x] us → ∃ u, us = [u] ∧ RelV x u
  | _, _, .cons r .nil => ⟨_, rfl, r⟩
theorem Vals.two : ∀ {x y : V} {us : List Value}, Vals [x, y] us → ∃ u v, us = [u, v] ∧ RelV x u ∧ RelV y v
  | _, _, _, .cons r (.cons q .nil) => ⟨_, _, rfl, r, q⟩
theorem Vals.zero : ∀ {us : List Value}, Vals [] us → us = []
  | _, .nil => rfl
theorem Vals.dropLast {xs : List V} {us : List Value} (h : Vals xs us) : Vals xs.dropLast us.dropLast := by
  induction h with
  | nil => exact .nil
  | cons r t ih =>
    cases t with
    | nil => exact .nil
    | cons q t' => exact .cons r ih
theorem Vals.eraseIdx : ∀ {xs : List V} {us : List Value} (i : Nat), Vals xs us → Vals (xs.eraseIdx i) (us.eraseIdx i)
  | _, _, _, .nil => .nil
  | _, _, 0, .cons _ t => t
  | _, _, i + 1, .cons r t => .cons r (Vals.eraseIdx i t)
theorem erase_last {α : Type} (l : List α) : l.eraseIdx (l.length - 1) = l.dropLast := by
  induction l with
  | nil => rfl
  | cons a r ih =>
    cases r with
    | nil => rfl
    | cons b r =>
      have e : (a :: b :: r).length - 1 = ((b :: r).length - 1) + 1 := by
        have h1 : (a :: b :: r).length = r.length + 2 := rfl
        have h2 : (b :: r).length = r.length + 1 := rfl
        omega
      rw [e, List.eraseIdx_cons_succ, ih]
      all_goals rfl
section
variable {X : Cx} {pins : List (Addr × Obj)} {σ : St} {H : Hp} {s : Shared} {l b : Addr} {xs ys zs : List V}

theorem Inv.lset {its its' : List Value} {n : Nat} {f : Array Value → Array Value} {t' : Nat} (I : Inv X pins σ H s) (hH : H l = some (.lst xs))
    (e : s.heap.get? l = some { cls := .type "list", data := .seq its.toArray n }) (hf : f its.toArray = its'.toArray) (hv : Vals ys its') (hz : ys.length ≤ sizeLine) :
    Inv X pins σ (upd H l (.lst ys)) { s with heap := s.heap.update l (Obj.mapSeq f), toks := t' } := by
  have q := PySem.IsL.update e f
  rw [hf] at q
  refine I.write (x := l) (e := l) (by rw [hH]; exact trivial) (.inl rfl) (fun b' u hb hu => (Heap.get?_update_other s.heap (Obj.mapSeq f) (Ne.symm hb)).trans hu) ⟨_, q⟩ ?_
  exact ⟨hz, its', _, hv, q⟩
theorem Inv.lnew {its : List Value} {t' : Nat} (I : Inv X pins σ H s) (hv : Vals ys its) (hz : ys.length ≤ sizeLine) :
    Inv X pins σ (upd H s.heap.objs.size (.lst ys)) { s with heap := s.heap.push { cls := .type "list", data := .seq its.toArray }, toks := t' } :=
  I.laid (fun _ _ q => Heap.get?_push_of_some _ q) (Nat.le_refl _) ⟨hz, its, 0, hv, Heap.get?_push_size _ rfl⟩
theorem Inv.fresh (I : Inv X pins σ H s) : H s.heap.objs.size = none := I.hok.fresh (Nat.le_refl _)
theorem Inv.lstM (I : Inv X pins σ H s) (hH : H l = some (.lst xs)) : xs.length ≤ sizeLine ∧ ∃ (its : List Value) (n : Nat), Vals xs its ∧ xs.length = its.length ∧ s.heap.get? l = some { cls := .type "list", data := .seq its.toArray n } := by
  obtain ⟨z, its, n, r, e⟩ := I.hok l _ hH
  exact ⟨z, its, n, r, r.length, e⟩

end

section
variable {X : Cx}

noncomputable def rAppend : V → List V → Hp → VK → Prop := fun x vs H Q => ∃ l xs y, x = .ref l ∧ vs = [y] ∧ H l = some (.lst xs) ∧ xs.length < sizeLine ∧ Q .non (upd H l (.lst (xs ++ [y])))
theorem mt_append : MtM X "list.append" rAppend := by
  intro pins s σ H x vs v us Q I rx rv h
  obtain ⟨l, xs, y, rfl, rfl, hH, hz, q⟩ := h
  cases rx
  obtain ⟨u, rfl, ru⟩ := rv.one
  obtain ⟨z, its, n, r, hl, e⟩ := I.lstM hH
  refine call_meets F.slot_list_append ⟨_, e, rfl⟩ F.entry_list_append (F.args_list_append_2 _ _) (PySem.list_append l its.toArray n u (by rw [List.size_toArray]; omega)) ⟨e, ?_⟩
  refine ⟨.non, _, I.lset (its' := its ++ [u]) hH e (by simp) (r.append (.cons ru .nil)) ?_, rfl, q⟩
  rw [List.length_append, List.length_singleton]
  omega

noncomputable def rPop : V → List V → Hp → VK → Prop := fun x vs H Q => ∃ l xs y, x = .ref l ∧ vs = [] ∧ H l = some (.lst xs) ∧ xs[xs.length - 1]? = some y ∧ Q y (upd H l (.lst xs.dropLast))
theorem mt_pop : MtM X "list.pop" rPop := by
  intro pins s σ H x vs v us Q I rx rv h
  obtain ⟨l, xs, y, rfl, rfl, hH, hy, q⟩ := h
  cases rx
  have hus := rv.zero
  subst hus
  obtain ⟨z, its, n, r, hl, e⟩ := I.lstM hH
  obtain ⟨u, hu, ru⟩ := r.get hy
  have hy' : its.toArray[its.toArray.size - 1]? = some u := by
    show its.toArray[its.length - 1]? = some u
    rw [← Array.getElem?_toList, ← hl]
    exact hu
  refine call_meets F.slot_list_pop ⟨_, e, rfl⟩ F.entry_list_pop (F.args_list_pop_1 _) (MeetsSeq.list_pop_last l its.toArray n u hy' (by rw [List.size_toArray]; omega)) ⟨e, ?_⟩
  refine ⟨y, _, I.lset (its' := its.dropLast) hH e ?_ r.dropLast ?_, ru, q⟩
  · show its.toArray.eraseIdxIfInBounds (its.toArray.size - 1) = its.dropLast.toArray
    rw [List.size_toArray, List.eraseIdxIfInBounds_toArray, erase_last]
  · rw [List.length_dropLast]
    omega

end

section
variable {prog : Program} {w : World} {A : Around} {E : Value → Shared → Prop} {s : Shared}
end

section
variable {X : Cx}
end
end L2

namespace Att
open PySem PySem.W PySem.Calls PyProof.Rows

theorem ints_of_wellAll {P : Params} {h : Heap} : ∀ (ns : List Int) (vs : List Value), WellAll P h vs (ns.map WData.int) → IntsAre vs ns := by
  intro ns
  induction ns with
  | nil =>
    intro vs w
    rw [List.map_nil] at w
    cases w
    exact .nil
  | cons n ns ih =>
    intro vs w
    rw [List.map_cons] at w
    cases w with
    | cons a b =>
      cases a
      exact .cons _ _ (ih _ b)

theorem script_of {l : OpenLaw} {n : Nat} (hn : l.most = some n) {P : Params} {h : Heap} {args : List WData} {vals : List Value}
    (hpre : l.row.toRowW.claim.pre args = true) (hwl : WellAll P h vals args) :
    ∃ a vs ns, vals = [Value.ref a] ∧ args = [WData.list (ns.map WData.int)] ∧ h.get? a = some { cls := .type "list", data := .seq vs.toArray } ∧ IntsAre vs ns ∧ ns.length ≤ n := by
  have hsh : WShape.hasAll [] args [.list .int] = true := (pre_splitW hpre).1
  have hc : l.pre.holds [] { args := args } = true := (pre_splitW hpre).2
  obtain ⟨d, r, rfl, h1, h2⟩ := hasAllW_cons hsh
  obtain rfl := hasAllW_nil h2
  obtain ⟨xs, rfl, h3⟩ := hasW_list h1
  obtain ⟨ns, rfl⟩ := items_int h3
  have hlen : ns.length ≤ n := by
    unfold OpenLaw.pre at hc
    have h4 : (WTm.not (.lt (.lit (.int (n : Int))) (.len (.arg 0)))).holds [] { args := [.list (ns.map .int)] } = true := by
      have h4 := (holds_andW hc).1
      rw [hn] at h4
      exact h4
    have h5 := condW_of h4 (w_not (w_lt w_lit (w_len_list (w_arg rfl))))
    rw [List.length_map] at h5
    refine Nat.le_of_not_lt fun q => ?_
    have q' : (n : Int) < ((ns.length : Nat) : Int) := by omega
    first
      | (rw [decide_eq_true q'] at h5; exact absurd h5 (by decide))
      | (simp at h5; omega)
  cases hwl with
  | cons w1 w2 =>
    cases w2
    cases w1 with
    | list ho hall => exact ⟨_, _, ns, rfl, rfl, ho, ints_of_wellAll ns _ hall, hlen⟩

theorem post_true (l : OpenLaw) (args : List WData) : l.row.toRowW.claim.post args (.bool true) args = true :=
  postW_of (r := l.row.toRowW) (X := (true == true))
    (show WShape.has [] (.bool true) .bool = true by first | rfl | decide | simp [WShape.has, WShape.arms, WShape.armsAll])
    (show (WTm.eq .res (.lit (.bool true))).value [] { args := args, res := some (.bool true), after := args } = some (.bool (true == true)) from w_eq_bool (w_res rfl) w_lit) rfl

theorem attach_call {l : OpenLaw} {n : Nat} {q : Program} {loose : List Str} {XP : (Str → Option Value) → Heap → Prop} {YP : World → Heap → Prop} {d : DefRec}
    (hn : l.most = some n) (hdf : d.params.defaults = [])
    (call : ∀ (w : World) (s₀ s₁ : Shared) (mg mb : Str → Option Value) (fa : Addr) (o : Obj) (pm cd doc : Value) (a : Addr) (vs : List Value) (ns : List Int),
      Ground q loose [] XP w s₀ mg mb s₁.heap → YP w s₁.heap →
      s₁.heap.get? fa = some o → o.data = .func (docDef d.name d.params d.body d.scope pm cd doc) → s₁.heap.CodeRec cd d.name → mg d.name = some (.ref fa) →
      s₁.heap.get? a = some { cls := .type "list", data := .seq vs.toArray } → IntsAre vs ns → ns.length ≤ n → s₁.gens = #[] →
      codeAny (model l.prog w) callerA (.call (.ref fa) ⟨[.ref a], []⟩) (fun r s' => r = .ok (.ret (.bool true)) ∧ OldK s₁.heap s'.heap ∧ s'.os = s₁.os ∧ AllBare s'.gens) s₁) :
    WalkO q loose XP YP l.row.toRowW d [] (fun f vs => PySem.call f vs) := by
  intro w s₀ s₁ mg mb G Y fa o pm cd doc dV kV ho hd hcd hD hmg hg args vals as hpre hlay hrd hwl hlo
  obtain rfl : dV = .none := Dflts.none hD hdf
  obtain rfl : kV = .none := Dflts.noKw hD
  obtain ⟨a, vs, ns, rfl, rfl, hobj, hints, hlen⟩ := script_of hn hpre hwl
  refine enter_call (codeAny_mono (call w s₀ s₁ mg mb fa o pm cd doc a vs ns G Y ho (fd_plain hd) hcd hmg hobj hints hlen hg) fun r s' hq => ?_)
  obtain ⟨rfl, h2, h3, h4⟩ := hq
  exact ⟨.inl ⟨.bool true, .bool true, [], rfl, fun _ => rfl, .bool true, post_true l _, fun _ => ⟨List.Pairwise.nil, fun _ hm => (nomatch hm)⟩⟩, h2, h3, h4⟩

section
variable {prog : Program} {w : World} {A : Around} {E : Value → Shared → Prop} {s : Shared} {K : Frag}

noncomputable def ledger (h : Heap) (L d : Addr) : List (Addr × Obj) := (List.range h.objs.size).filterMap fun a => if a = L ∨ a = d then none else (h.get? a).map fun o => (a, o)
end
end Att

namespace L2
open PySem PySem.Spec PyProof.Rows

theorem vals_ints : ∀ {vs : List Value} {ns : List Int}, IntsAre vs ns → Vals (ns.map V.int) vs
  | _, _, .nil => .nil
  | _, _, .cons n t h => .cons ⟨t, rfl⟩ (vals_ints h)

noncomputable def Only (H : Hp) : Prop := ∀ b, H b = none ∨ ∃ o xs, H b = some (.frz o (.lst xs))

theorem law_call {P : Program} {w : World} {K : PySem.W.Frag} {mg mb : Str → Option Value} {CX : CXT} {k : Nat} {fa a : Addr} {fd : FuncData} {x : Str} {sp : Sp} {s₁ : Shared} {vs : List Value} {ns : List Int}
    (KX : K.In s₁.heap) (hns : s₁.heap.Ns mainGlobals mg) (hb : s₁.heap.Ns builtinsNs mb) (hbb : ∀ x : Str, x ≠ "__name__" → mb x = bootBuiltins x) (hlim : s₁.heap.NoLimit) (hg : s₁.gens = #[])
    (ha : s₁.heap.get? a = some { cls := .type "list", data := .seq vs.toArray }) (hi : IntsAre vs ns) (hl : ns.length ≤ sizeLine) (hr : Room k callerA)
    (F : ∀ base : Heap, K.In base → base.Ns mainGlobals mg → FnOk P w K mg base CX k fa fd [x] sp) (hbind : ∀ (s : Shared) (u : Value), BindsTo s fd ⟨[u], []⟩ [(x, u)])
    (hsp : ∀ H : Hp, Only H → SqL K H a (ns.map V.int) → sp [.ref a] H (fun v _ => v = .bl true) fun _ _ _ => False)
    (hCX : ∀ H e s', CX [] H s₁ (fun _ _ _ => False) e s' → False) :
    codeAny (model P w) callerA (.call (.ref fa) ⟨[.ref a], []⟩) (fun r s' => r = .ok (.ret (.bool true)) ∧ OldK s₁.heap s'.heap ∧ s'.os = s₁.os ∧ AllBare s'.gens) s₁ := by
  have rv := vals_ints hi
  have lenV := hi.length
  -- from an abstract heap in which nothing but the script may be tracked
  have core : ∀ H : Hp, Only H → SqL K H a (ns.map V.int) → HOk P w H s₁.heap → (∀ b, H b ≠ none → b = a) → (H a ≠ none → K.lookup a = none) →
      codeAny (model P w) callerA (.call (.ref fa) ⟨[.ref a], []⟩) (fun r s' => r = .ok (.ret (.bool true)) ∧ OldK s₁.heap s'.heap ∧ s'.os = s₁.os ∧ AllBare s'.gens) s₁ := by
    intro H hO hS hok hA hK
    have base_of : ∀ {b : Addr} {o : Obj}, s₁.heap.get? b = some o → H b = none → (hidT s₁.heap H).get? b = some o := fun e n => hidT_get e n
    have noA : ∀ {b : Addr} {o : Obj} {es : Array DictEntry} {ep : Nat}, s₁.heap.get? b = some o → o.data = .dict es ep → H b = none := fun {b o es ep} e d => by
      cases q : H b with
      | none => rfl
      | some u =>
        have e' : b = a := hA b (by rw [q]; simp)
        subst e'
        rw [ha] at e; cases e
        have d' : Data.seq vs.toArray _ = Data.dict es ep := d
        cases d'
    have nsK : ∀ {b : Addr} {m : Str → Option Value}, s₁.heap.Ns b m → (hidT s₁.heap H).Ns b m := fun {b m} ⟨o, es, ep, e, d, r⟩ => ⟨o, es, ep, base_of e (noA e d), d, r⟩
    have hKb : K.In (hidT s₁.heap H) := fun b o e => base_of (KX b o e) (by
      cases q : H b with
      | none => rfl
      | some u =>
        have e' : b = a := hA b (by rw [q]; simp)
        subst e'
        rw [hK (by rw [q]; simp)] at e; cases e)
    have hM : Mod K mg (hidT s₁.heap H) := ⟨hKb, nsK hns, ⟨mb, nsK hb, hbb⟩, let ⟨mc, h1, h2⟩ := hlim; ⟨mc, nsK h1, h2⟩⟩
    have e0 : Env0 P w K mg (hidT s₁.heap H) callerA [] s₁ H := ⟨rfl, hM, fun b o e => of_hidT e, Nat.le_of_eq (hidT_size _ _), trivial, fun b hb => absurd (show b ∈ ([] : List Addr) from hb) (by simp), hok, .of_eq hg⟩
    refine codeAny_mono ((F _ hKb (nsK hns)).run callerA [] s₁ H ⟨[.ref a], []⟩ [.ref a] [.ref a] _ _ hr e0 (hbind s₁ (.ref a)) (.cons rfl .nil) (hsp H hO hS)) fun r s' h => ?_
    cases r with
    | error e => exact (hCX H e s' h).elim
    | ok fl =>
      cases fl with
      | next => exact False.elim h
      | brk => exact False.elim h
      | cont => exact False.elim h
      | ret u =>
        obtain ⟨v, H', os, bare, un, hok', r', q⟩ := h
        have q' : v = .bl true := q
        subst q'
        obtain rfl : u = Value.bool true := r'
        refine ⟨rfl, OldK.of_keep fun b o e => ?_, os, bare⟩
        cases q : H b with
        | none => exact un.keep b o e q (by intro z; exact absurd (show b ∈ ([] : List Addr) from z) (by simp)) (by simp)
        | some u =>
          rcases hO b with z | ⟨ob, xs, z⟩
          · rw [q] at z; cases z
          · have z2 := un.frzs b ob _ z
            obtain ⟨e1, _⟩ := hok b _ z
            obtain ⟨e2, _⟩ := hok' b _ z2
            rw [e] at e1; cases e1
            exact e2
  cases hk : K.lookup a with
  | some o =>
    -- the script is one of the module's own objects
    have e := KX a o hk
    rw [ha] at e
    cases e
    refine core (fun _ => none) (fun _ => .inl rfl) (.inr ⟨_, vs.toArray, _, hk, rfl, rfl, rfl, by rw [List.size_toArray, lenV]; exact hl, by simpa using rv⟩) (fun b u z => by have z' : (none : Option HO) = some u := z; cases z') (fun b z => absurd rfl z) fun z => absurd rfl z
  | none =>
    refine core (fun b => if b = a then some (.frz { cls := .type "list", data := .seq vs.toArray } (.lst (ns.map V.int))) else none) (fun b => ?_) (.inl (.inr ⟨{ cls := .type "list", data := .seq vs.toArray }, if_pos rfl⟩)) (fun b u z => ?_) (fun b z => ?_) fun _ => hk
    · by_cases hb : b = a
      · exact .inr ⟨_, _, if_pos hb⟩
      · exact .inl (if_neg hb)
    · by_cases hb : b = a
      · have z' := (if_pos hb).symm.trans z
        cases z'
        subst hb
        exact ⟨ha, by rw [List.length_map]; exact hl, vs, _, rv, ha⟩
      · have z' := (if_neg hb).symm.trans z
        cases z'
    · by_cases hb : b = a
      · exact hb
      · exact absurd (if_neg hb) z
end L2

namespace L2
open PySem PySem.Spec PyProof.Rows

theorem walk_of {l : PySem.W.OpenLaw} {n k : Nat} {q : Program} {loose : List Str} {XP : (Str → Option Value) → Heap → Prop} {YP : World → Heap → Prop} {d : DefRec} {K : Params → PySem.W.Frag} {CX : World → CXT} {sp : World → Sp} {x : Str}
    (hn : l.most = some n) (hn2 : n ≤ sizeLine) (hdf : d.params.defaults = []) (hr : Room k callerA)
    (hY : ∀ (w : World) (h : Heap), YP w h → (K w.params).In h)
    (F : ∀ (w : World) (mg : Str → Option Value) (fa : Addr) (h : Heap), (K w.params).In h → h.Ns mainGlobals mg → mg d.name = some (.ref fa) →
      ∃ fd : FuncData, (∀ (s : Shared) (u : Value), BindsTo s fd ⟨[u], []⟩ [(x, u)]) ∧
        ∀ base : Heap, (K w.params).In base → base.Ns mainGlobals mg → FnOk l.prog w (K w.params) mg base (CX w) k fa fd [x] (sp w))
    (hsp : ∀ (w : World) (H : Hp) (a : Addr) (ns : List Int), ns.length ≤ n → Only H → SqL (K w.params) H a (ns.map V.int) → sp w [.ref a] H (fun v _ => v = .bl true) fun _ _ _ => False)
    (hCX : ∀ (w : World) (H : Hp) (s : Shared) (e : Value) (s' : Shared), CX w [] H s (fun _ _ _ => False) e s' → False) :
    PySem.W.WalkO q loose XP YP l.row.toRowW d [] (fun f vs => PySem.call f vs) := by
  refine Att.attach_call hn hdf fun w s₀ s₁ mg mb fa o pm cd doc a vs ns G Y ho hd hcd hmg hobj hints hlen hg => ?_
  have KX := hY w _ Y
  obtain ⟨fd, hb, hF⟩ := F w mg fa _ KX G.T.g hmg
  exact law_call KX G.T.g G.T.b G.T.builtins G.T.nolimit hg hobj hints (Nat.le_trans hlen hn2) hr hF hb (fun H hO hS => hsp w H a ns hlen hO hS) fun H e s' => hCX w H s₁ e s'
end L2


namespace L2
open PySem PySem.Spec PyProof.Rows

noncomputable def defArgs (s : Stmt) : Arguments := match s with
  | .FunctionDef _ a _ _ _ _ _ _ _ _ => a
  | _ => { posonlyargs := [], args := [], vararg := none, kwonlyargs := [], kw_defaults := [], kwarg := none, defaults := [] }
noncomputable def defBody (s : Stmt) : List Stmt := match s with
  | .FunctionDef _ _ b _ _ _ _ _ _ _ => b
  | _ => []
noncomputable def defScope (s : Stmt) : Scope := match s with
  | .FunctionDef _ _ _ _ _ _ sc _ _ _ => sc
  | _ => { kind := .function, names := [], isGenerator := false, isCoroutine := false }

noncomputable abbrev CX0 : CXT := fun _ _ _ _ _ _ => False
noncomputable abbrev E0 : XK := fun _ _ _ => False
theorem pass0 {X : Cx} : Passes CX0 X E0 := fun _ _ _ _ _ _ _ h => h.elim

structure Fun (K : PySem.W.Frag) (x qual : Str) (st : Stmt) (f : Addr) (fd : FuncData) : Prop where
  ex : ∃ (oc : Value) (od : Option Addr) (kV doc pm : Value) (an : Option Addr) (cdv ct : Value) (osl : Array (Option Value)),
    fd = PySem.W.fnOf x qual (defArgs st) (defBody st) (defScope st) .none kV doc pm an cdv ct ∧ K.lookup f = some ⟨oc, od, .func fd, osl⟩ ∧ PySem.W.codeIn K cdv qual = true
  kp : PySem.W.keepIn K (.ref f) = true
section
variable {P : Program} {w : World} {K : PySem.W.Frag} {mg : Str → Option Value} {base : Heap}
theorem Fun.ok {x qual : Str} {st : Stmt} {f : Addr} {fd : FuncData} {N ps : List Str} {k : Nat} {sp : Sp} (F : Fun K x qual st f fd) (S : FnScope N ps (defScope st)) (len : ∀ vs H Q E, sp vs H Q E → vs.length = ps.length)
    (hbody : ∀ (cdv : Value) (A : Around) (outer : List Env) (s : Shared) (H : Hp) (vs : List V) (Q : VK) (E : XK), Room k (A.deeper (envOfC qual (defScope st) s.heap.objs.size f cdv)) → sp vs H Q E →
      ∃ t, PSs (cxOf CX0 P w K mg base N qual (defScope st) f cdv A outer s H E).nox (defBody st) t ∧ t { nx := fun _ H' => Q .non H', rt := Q } (start N vs) H) : FnOk P w K mg base CX0 (k + 1) f fd ps sp := by
  obtain ⟨oc, od, kV, doc, pm, an, cdv, ct, osl, rfl, lk, hcd⟩ := F.ex
  refine fn_of lk hcd S len fun A outer s H vs Q E hr hsp => ?_
  obtain ⟨t, h, q⟩ := hbody cdv A outer s H vs Q E hr hsp
  exact ⟨t, h.nox, q⟩
theorem Fun.binds {x qual : Str} {st : Stmt} {f : Addr} {fd : FuncData} {ps : List Str} (F : Fun K x qual st f fd)
    (h : ∀ (kV doc pm : Value) (an : Option Addr) (cdv ct : Value) (us : List Value), us.length = ps.length → bindArgs (PySem.W.fnOf x qual (defArgs st) (defBody st) (defScope st) .none kV doc pm an cdv ct) ⟨us, []⟩ = pure (ps.zip us)) : Binds K fd ps [] := by
  obtain ⟨oc, od, kV, doc, pm, an, cdv, ct, osl, rfl, lk, hcd⟩ := F.ex
  exact .all (h kV doc pm an cdv ct)
theorem fun_mk {x qual : Str} {st : Stmt} {f : Addr} {oc : Value} {od an : Option Addr} {osl : Array (Option Value)} {kV doc pm cdv ct : Value} (l : K.lookup f = some ⟨oc, od, .func (PySem.W.fnOf x qual (defArgs st) (defBody st) (defScope st) .none kV doc pm an cdv ct), osl⟩)
    (c : PySem.W.codeIn K cdv qual = true) (k : PySem.W.keepIn K (.ref f) = true) : Fun K x qual st f (PySem.W.fnOf x qual (defArgs st) (defBody st) (defScope st) .none kV doc pm an cdv ct) := ⟨⟨oc, od, kV, doc, pm, an, cdv, ct, osl, rfl, l, c⟩, k⟩
end
section
variable {X : Cx}
end

noncomputable def Same (H H' : Hp) : Prop := ∀ b o, H b = some o → H' b = some o
theorem Same.refl (H : Hp) : Same H H := fun _ _ h => h
theorem Same.trans {H H1 H2 : Hp} (a : Same H H1) (b : Same H1 H2) : Same H H2 := fun c o h => b c o (a c o h)
theorem Same.free {H H' : Hp} (e : Same H H') {l : Addr} (h : H' l = Option.none) : H l = Option.none := by
  cases q : H l with
  | none => rfl
  | some o =>
    rw [e l o q] at h
    cases h
theorem Same.seq {K : PySem.W.Frag} {H H' : Hp} {a : Addr} {xs : List V} (e : Same H H') (h : SqL K H a xs) : SqL K H' a xs := by
  rcases h with (h | ⟨o, h⟩) | h
  · exact .inl (.inl (e _ _ h))
  · exact .inl (.inr ⟨o, e _ _ h⟩)
  · exact .inr h

end L2

set_option Elab.async false
set_option linter.all false
set_option maxRecDepth 100000
namespace L2
open PySem PySem.Spec PyProof.Rows

section
variable {κ : Type} [DecidableEq κ]
noncomputable def valV (kvs : List (κ × V)) (k : κ) : Option V := (kvs.find? fun kv => decide (kv.1 = k)).map (·.2)
noncomputable def putK (kvs : List (κ × V)) (k : κ) (v : V) : List (κ × V) :=
  if (kvs.any fun kv => decide (kv.1 = k)) = true then kvs.map (fun kv => if kv.1 = k then (kv.1, v) else kv) else kvs ++ [(k, v)]
noncomputable def dropK (kvs : List (κ × V)) (k : κ) : List (κ × V) := kvs.filter fun kv => decide (kv.1 ≠ k)

theorem valV_pos {p : κ × V} {r : List (κ × V)} {k : κ} (e : p.1 = k) : valV (p :: r) k = some p.2 := by simp [valV, List.find?_cons, e]
theorem valV_neg {p : κ × V} {r : List (κ × V)} {k : κ} (e : ¬ p.1 = k) : valV (p :: r) k = valV r k := by simp [valV, List.find?_cons, e]
theorem RelO.isSome_eq {o : Option V} {u : Option Value} (r : RelO o u) : o.isSome = u.isSome := by
  cases o with
  | none => cases u with
    | none => rfl
    | some _ => exact (show False from r).elim
  | some _ => cases u with
    | none => exact (show False from r).elim
    | some _ => rfl
theorem RelO.getD {o : Option V} {u : Option Value} {d : V} {d' : Value} (r : RelO o u) (rd : RelV d d') : RelV (o.getD d) (u.getD d') := by
  cases o with
  | none => cases u with
    | none => exact rd
    | some _ => exact (show False from r).elim
  | some _ => cases u with
    | none => exact (show False from r).elim
    | some _ => exact r

theorem KV.val {kvs : List (κ × V)} {vs : List (κ × Value)} (r : KV kvs vs) (k : κ) : RelO (valV kvs k) (valueAt vs k) := by
  unfold KV at r
  induction r with
  | nil => exact True.intro
  | @cons p q ps qs h t ih =>
    obtain ⟨h1, h2⟩ := h
    by_cases e : p.1 = k
    · have e' : q.1 = k := h1.symm.trans e
      have b : valueAt (q :: qs) k = some q.2 := by simp [valueAt, List.find?_cons, e']
      rw [valV_pos e, b]; exact h2
    · have e' : ¬ q.1 = k := fun z => e (h1.trans z)
      have b : valueAt (q :: qs) k = valueAt qs k := by simp [valueAt, List.find?_cons, e']
      rw [valV_neg e, b]; exact ih
theorem KV.any {kvs : List (κ × V)} {vs : List (κ × Value)} (r : KV kvs vs) (k : κ) : (kvs.any fun kv => decide (kv.1 = k)) = vs.any fun kv => decide (kv.1 = k) := by
  unfold KV at r
  induction r with
  | nil => rfl
  | cons h t ih => rw [List.any_cons, List.any_cons, ih, h.1]
theorem KV.drop {kvs : List (κ × V)} {vs : List (κ × Value)} (r : KV kvs vs) (k : κ) : KV (dropK kvs k) (without vs k) := by
  unfold KV at r ⊢
  unfold dropK without
  induction r with
  | nil => exact .nil
  | @cons p q ps qs h t ih =>
    obtain ⟨h1, h2⟩ := h
    rw [List.filter_cons, List.filter_cons]
    by_cases e : p.1 = k
    · have a : ¬ decide (p.1 ≠ k) = true := by simp [e]
      have b : ¬ decide (q.1 ≠ k) = true := by simp [h1.symm.trans e]
      rw [if_neg a, if_neg b]; exact ih
    · have e' : ¬ q.1 = k := fun z => e (h1.trans z)
      have a : decide (p.1 ≠ k) = true := by simp [e]
      have b : decide (q.1 ≠ k) = true := by simp [e']
      rw [if_pos a, if_pos b]; exact .cons ⟨h1, h2⟩ ih
theorem KV.keys {kvs : List (κ × V)} {vs : List (κ × Value)} (r : KV kvs vs) : kvs.map (·.1) = vs.map (·.1) := by
  unfold KV at r
  induction r with
  | nil => rfl
  | cons h t ih => rw [List.map_cons, List.map_cons, ih, h.1]
theorem KV.length {kvs : List (κ × V)} {vs : List (κ × Value)} (r : KV kvs vs) : kvs.length = vs.length := Paired.length r
end


theorem kV_is {P : Program} {w : World} {k : Key} {u : Value} (r : RelV (kV k) u) : (mixKind P w).is k u = true := by
  cases k with
  | inl i => obtain ⟨t, e⟩ := (show ∃ t, u = Value.int i t from r); subst e; exact mixKind_int P w i t
  | inr x => obtain ⟨t, e⟩ := (show ∃ t, u = Value.str x t from r); subst e; exact mixKind_str P w x t
theorem items_are {P : Program} {w : World} : ∀ {ks : List Key} {us : List Value}, Vals (ks.map kV) us → ItemsAre (mixKind P w) ks us
  | [], _, r => by rw [List.map_nil] at r; cases r; exact .nil
  | k :: ks, _, r => by
    rw [List.map_cons] at r
    cases r with
    | cons h t => exact .cons (kV_is h) (items_are t)

noncomputable abbrev KT (H : Hp) : List (List Key × V) → List (List Key × Addr × Value) → Prop := Paired fun p q => p.1 = q.1 ∧ H q.2.1 = some (.tup (p.1.map kV)) ∧ RelV p.2 q.2.2
theorem KT.val {H : Hp} {kvs : List (List Key × V)} {xs : List (List Key × Addr × Value)} (r : KT H kvs xs) (k : List Key) : RelO (valV kvs k) ((atKey xs k).map (·.2)) := by
  induction r with
  | nil => exact True.intro
  | @cons p q ps qs h t ih =>
    obtain ⟨h1, _, h2⟩ := h
    by_cases e : p.1 = k
    · have e' : q.1 = k := h1.symm.trans e
      have b : atKey (q :: qs) k = some q.2 := by simp [atKey, List.find?_cons, e']
      rw [valV_pos e, b]; exact h2
    · have e' : ¬ q.1 = k := fun z => e (h1.trans z)
      have b : atKey (q :: qs) k = atKey qs k := by simp [atKey, List.find?_cons, e']
      rw [valV_neg e, b]; exact ih
theorem KT.keeps {H H' : Hp} {kvs : List (List Key × V)} {xs : List (List Key × Addr × Value)} (r : KT H kvs xs) (ht : ∀ b ys, H b = some (.tup ys) → H' b = some (.tup ys)) : KT H' kvs xs :=
  Paired.mapP r fun _ _ z => ⟨z.1, ht _ _ z.2.1, z.2.2⟩

section
variable {P : Program} {w : World} {H : Hp} {h : Heap} {a : Addr}
theorem rd_of {u : HO} (ok : HOk P w H h) (e : Rd H a u) : ObjOk P w H h a u := e.ok ok
theorem dk_rd {kvs : List (Key × V)} (ok : HOk P w H h) (e : Rd H a (.dK kvs)) : kvs.length ≤ sizeLine ∧ (a == sysModules) = false ∧ ∃ vs, KV kvs vs ∧ h.DictOf (mixKind P w) a vs :=
  show ObjOk P w H h a (.dK kvs) from rd_of ok e
theorem key_of {ks : List Key} (ok : HOk P w H h) (e : H a = some (.tup (ks.map kV))) : (tupleKind (mixKind P w)).is h ks a := by
  obtain ⟨_, its, r, o, h1, h2, n, h3⟩ := (show ObjOk P w H h a (.tup (ks.map kV)) from ok a _ e)
  exact ⟨o, its.toArray, n, h1, h2, h3, by simpa using items_are r⟩
theorem dt_rd {kvs : List (List Key × V)} (ok : HOk P w H h) (e : Rd H a (.dT kvs)) : kvs.length ≤ sizeLine ∧ (a == sysModules) = false ∧
    ∃ xs, KT H kvs xs ∧ h.DictOfH (tupleKind (mixKind P w)) a xs := by
  obtain ⟨z, y, xs, r, o, es, ep, h1, h2, h3, h4, h5⟩ := (show ObjOk P w H h a (.dT kvs) from rd_of ok e)
  refine ⟨z, y, xs, r, o, es, ep, h1, h2, h3, h4, fun x hx => ?_, h5⟩
  have all : ∀ {l : List (List Key × V)} {m : List (List Key × Addr × Value)}, KT H l m → ∀ x ∈ m, (tupleKind (mixKind P w)).is h x.1 x.2.1 := by
    intro l m q
    induction q with
    | nil => intro x hx; exact nomatch hx
    | @cons p q ps qs hq t ih =>
      intro x hx
      rcases List.mem_cons.mp hx with e | hx
      · subst e
        exact key_of ok (by rw [← hq.1]; exact hq.2.1)
      · exact ih x hx
  exact all r x hx
end

noncomputable def DGet (H : Hp) (a : Addr) (y : V) (r : Option V) : Prop :=
  (∃ kvs k, Rd H a (.dK kvs) ∧ y = kV k ∧ r = valV kvs k) ∨ ∃ kvs k b, Rd H a (.dT kvs) ∧ y = .ref b ∧ H b = some (.tup (k.map kV)) ∧ r = valV kvs k
noncomputable def DPut (H : Hp) (a : Addr) (y v : V) (H' : Hp) : Prop :=
  (∃ kvs k, H a = some (.dK kvs) ∧ y = kV k ∧ kvs.length < sizeLine ∧ H' = upd H a (.dK (putK kvs k v))) ∨
  ∃ kvs k b, H a = some (.dT kvs) ∧ y = .ref b ∧ H b = some (.tup (k.map kV)) ∧ kvs.length < sizeLine ∧ H' = upd H a (.dT (putK kvs k v))
theorem DGet.k {H : Hp} {a : Addr} {kvs : List (Key × V)} {k : Key} (e : H a = some (.dK kvs)) : DGet H a (kV k) (valV kvs k) := .inl ⟨kvs, k, .inl e, rfl, rfl⟩
theorem DGet.t {H : Hp} {a b : Addr} {kvs : List (List Key × V)} {k : List Key} (e : H a = some (.dT kvs)) (eb : H b = some (.tup (k.map kV))) : DGet H a (.ref b) (valV kvs k) := .inr ⟨kvs, k, b, .inl e, rfl, eb, rfl⟩
theorem DPut.k {H : Hp} {a : Addr} {kvs : List (Key × V)} {k : Key} {v : V} (e : H a = some (.dK kvs)) (hl : kvs.length < sizeLine) : DPut H a (kV k) v (upd H a (.dK (putK kvs k v))) := .inl ⟨kvs, k, e, rfl, hl, rfl⟩
theorem DPut.t {H : Hp} {a b : Addr} {kvs : List (List Key × V)} {k : List Key} {v : V} (e : H a = some (.dT kvs)) (eb : H b = some (.tup (k.map kV))) (hl : kvs.length < sizeLine) :
    DPut H a (.ref b) v (upd H a (.dT (putK kvs k v))) := .inr ⟨kvs, k, b, e, rfl, eb, hl, rfl⟩


section
variable {X : Cx} {pins : List (Addr × Obj)} {σ : St} {H : Hp} {s : Shared} {a : Addr} {y v : V} {u r : Value} {o : Option V} {A : Around} {E : Value → Shared → Prop}

theorem d_in {Q : Value → Shared → Prop} (hu : A.units + 1 < cLine) (I : Inv X pins σ H s) (g : DGet H a y o) (ry : RelV y u) (h : ∀ s', Inv X pins σ H s' → Q (.bool o.isSome) s') :
    wpAny (model X.prog X.w) A (compareOp .In u (.ref a)) Q E s := by
  rcases g with ⟨kvs, k, e, ey, l⟩ | ⟨kvs, k, b, e, ey, eb, l⟩
  · subst ey
    obtain ⟨z, hd, vs, rel, dd⟩ := dk_rd I.hok e
    refine wpAny_in_of (kV_is ry) hd dd.mapOf ?_
    rw [← (rel.val k).isSome_eq, ← l]
    exact h _ (I.tok _)
  · subst ey
    cases (show u = Value.ref b from ry)
    obtain ⟨z, hd, xs, rel, dd⟩ := dt_rd I.hok e
    refine wpAny_in_heap (tupleKind_room_in1 hu) (key_of I.hok eb) hd dd ?_
    have q := (rel.val k).isSome_eq
    rw [Option.isSome_map] at q
    rw [← q, ← l]
    exact h _ (I.tok _)
end

section
variable {X : Cx} {pins : List (Addr × Obj)} {σ : St} {H : Hp} {s : Shared} {a : Addr} {kvs : List (Key × V)} {k : Key} {u : Value} {A : Around} {E : Value → Shared → Prop}
end


section
variable {X : Cx} {o i e value : Expr} {pos pos' tpos : Pos} {td ty tv : TE}
end


section
variable {X : Cx} {pos : Pos}
end

structure M1 (X : Cx) (o : Expr) (m : Str) (apos : Pos) (e : Expr) (cpos : Pos) : Prop where
  base : attributeBase o m X.env (eval o X.env) = eval o X.env
  few : ((backTo cpos (starEach [e] X.env)).all (fun x => !x.1) && (backToKw cpos (keywordEach [] X.env)).all (fun x => x.1.isSome)
    && decide (([e] : List Expr).length + ([] : List Keyword).length + (if ([] : List Keyword).isEmpty then 0 else 1) < 30)) = true
  line : (apos.endLine == cpos.line) = true
  trees : backTo cpos (starEach [e] X.env) = [(false, eval e X.env)]
structure M2 (X : Cx) (o : Expr) (m : Str) (apos : Pos) (e f : Expr) (cpos : Pos) : Prop where
  base : attributeBase o m X.env (eval o X.env) = eval o X.env
  few : ((backTo cpos (starEach [e, f] X.env)).all (fun x => !x.1) && (backToKw cpos (keywordEach [] X.env)).all (fun x => x.1.isSome)
    && decide (([e, f] : List Expr).length + ([] : List Keyword).length + (if ([] : List Keyword).isEmpty then 0 else 1) < 30)) = true
  line : (apos.endLine == cpos.line) = true
  trees : backTo cpos (starEach [e, f] X.env) = [(false, eval e X.env), (false, eval f X.env)]

section
variable {X : Cx} {pins : List (Addr × Obj)} {σ : St} {H : Hp} {s : Shared} {a : Addr} {y d : V} {u r : Value} {o : Option V} {A : Around} {E : Value → Shared → Prop}
end

section
variable {X : Cx} {o e f : Expr} {apos cpos : Pos} {td ty tx : TE}
end

section
variable {X : Cx} {pins : List (Addr × Obj)} {σ : St} {H : Hp} {s : Shared} {a : Addr} {kvs : List (Key × V)} {A : Around} {E : Value → Shared → Prop}
end


section
variable {X : Cx} {pins : List (Addr × Obj)} {σ : St} {H : Hp} {s : Shared} {a : Addr} {y : V} {u : Value} {A : Around} {E : Value → Shared → Prop}
end
end L2

set_option Elab.async false
set_option linter.all false
set_option maxRecDepth 100000
set_option maxHeartbeats 4000000
namespace M
open PySem PySem.Spec PyProof.Rows L2

inductive D where
  | non | bl (b : Bool) | int (i : Int) | str (x : Str) | tup (ds : List D) | lst (ds : List D)
  /-- a dict: its keys (ints and texts; tuples of them), its values -/
  | dct (ks : List Key) (ds : List D) | dtt (ks : List (List Key)) (ds : List D)
  /-- an exception of the text's class c -/
  | exn (c : Str)
  deriving Inhabited

mutual
noncomputable def Is (K : PySem.W.Frag) (G : Hp) : D → V → Prop
  | .non, v => v = .non
  | .bl b, v => v = .bl b
  | .int i, v => v = .int i
  | .str x, v => v = .str x ∧ x.length ≤ sizeLine ∧ PyData.strOk x = true
  | .tup ds, v => ∃ a xs, v = .ref a ∧ SqT K G a xs ∧ xs.length ≤ sizeLine ∧ IsL K G ds xs
  | .lst ds, v => ∃ a xs, v = .ref a ∧ SqL K G a xs ∧ xs.length ≤ sizeLine ∧ IsL K G ds xs
  | .dct ks ds, v => ∃ a xs, v = .ref a ∧ G a = some (.dK (ks.zip xs)) ∧ ks.length = xs.length ∧ IsL K G ds xs
  | .dtt ks ds, v => ∃ a xs, v = .ref a ∧ G a = some (.dT (ks.zip xs)) ∧ ks.length = xs.length ∧ IsL K G ds xs
  | .exn c, v => ∃ a φ C, v = .ref a ∧ G a = some (.ext φ) ∧ (∀ h : Heap, φ h → ∃ o, h.get? a = some o ∧ o.cls = .ref C) ∧ PySem.W.nsIn K mainGlobals c = some (some (.ref C))
noncomputable def IsL (K : PySem.W.Frag) (G : Hp) : List D → List V → Prop
  | [], xs => xs = []
  | d :: ds, xs => ∃ x r, xs = x :: r ∧ Is K G d x ∧ IsL K G ds r
end

section
variable {K : PySem.W.Frag} {G G' H : Hp}
theorem SqT.same {a : Addr} {xs : List V} (e : Same G G') (h : SqT K G a xs) : SqT K G' a xs := by
  rcases h with (h | ⟨o, h⟩) | h
  · exact .inl (.inl (e _ _ h))
  · exact .inl (.inr ⟨o, e _ _ h⟩)
  · exact .inr h
mutual
theorem Is.same (e : Same G G') : ∀ {d : D} {v : V}, Is K G d v → Is K G' d v
  | .non, v, h => h
  | .bl b, v, h => h
  | .int i, v, h => h
  | .str x, v, h => h
  | .tup ds, v, h => by
    obtain ⟨a, xs, rfl, h1, h2, h3⟩ := h
    exact ⟨a, xs, rfl, SqT.same e h1, h2, IsL.same e h3⟩
  | .lst ds, v, h => by
    obtain ⟨a, xs, rfl, h1, h2, h3⟩ := h
    exact ⟨a, xs, rfl, e.seq h1, h2, IsL.same e h3⟩
  | .dct ks ds, v, h => by
    obtain ⟨a, xs, rfl, h1, h2, h3⟩ := h
    exact ⟨a, xs, rfl, e _ _ h1, h2, IsL.same e h3⟩
  | .dtt ks ds, v, h => by
    obtain ⟨a, xs, rfl, h1, h2, h3⟩ := h
    exact ⟨a, xs, rfl, e _ _ h1, h2, IsL.same e h3⟩
  | .exn c, v, h => by
    obtain ⟨a, φ, C, rfl, h1, h2, h3⟩ := h
    exact ⟨a, φ, C, rfl, e _ _ h1, h2, h3⟩
theorem IsL.same (e : Same G G') : ∀ {ds : List D} {xs : List V}, IsL K G ds xs → IsL K G' ds xs
  | [], xs, h => h
  | d :: ds, xs, h => by
    obtain ⟨x, r, rfl, h1, h2⟩ := h
    exact ⟨x, r, rfl, Is.same e h1, IsL.same e h2⟩
end
theorem IsL.length : ∀ {ds : List D} {xs : List V}, IsL K G ds xs → xs.length = ds.length
  | [], xs, h => by rw [show xs = [] from h]; rfl
  | d :: ds, xs, h => by
    obtain ⟨x, r, rfl, h1, h2⟩ := h
    simp [IsL.length h2]
theorem IsL.get : ∀ {ds : List D} {xs : List V} {i : Nat} {d : D}, IsL K G ds xs → ds[i]? = some d → ∃ x, xs[i]? = some x ∧ Is K G d x
  | [], _, _, _, _, e => by simp at e
  | d :: ds, xs, 0, d', h, e => by
    obtain ⟨x, r, rfl, h1, h2⟩ := h
    simp at e; subst e
    exact ⟨x, rfl, h1⟩
  | d :: ds, xs, i + 1, d', h, e => by
    obtain ⟨x, r, rfl, h1, h2⟩ := h
    obtain ⟨y, e1, e2⟩ := IsL.get (i := i) h2 (by simpa using e)
    exact ⟨y, by simpa using e1, e2⟩
theorem IsL.append : ∀ {ds es : List D} {xs ys : List V}, IsL K G ds xs → IsL K G es ys → IsL K G (ds ++ es) (xs ++ ys)
  | [], es, xs, ys, h, h' => by rw [show xs = [] from h]; exact h'
  | d :: ds, es, xs, ys, h, h' => by
    obtain ⟨x, r, rfl, h1, h2⟩ := h
    exact ⟨x, r ++ ys, rfl, h1, IsL.append h2 h'⟩
theorem IsL.one {d : D} {v : V} (h : Is K G d v) : IsL K G [d] [v] := ⟨v, [], rfl, h, rfl⟩
theorem IsL.take : ∀ {ds : List D} {xs : List V} (n : Nat), IsL K G ds xs → IsL K G (ds.take n) (xs.take n)
  | _, _, 0, _ => rfl
  | [], xs, n + 1, h => by rw [show xs = [] from h]; rfl
  | d :: ds, xs, n + 1, h => by
    obtain ⟨x, r, rfl, h1, h2⟩ := h
    exact ⟨x, r.take n, rfl, h1, IsL.take n h2⟩
theorem IsL.drop : ∀ {ds : List D} {xs : List V} (n : Nat), IsL K G ds xs → IsL K G (ds.drop n) (xs.drop n)
  | _, _, 0, h => h
  | [], xs, n + 1, h => by rw [show xs = [] from h]; rfl
  | d :: ds, xs, n + 1, h => by
    obtain ⟨x, r, rfl, h1, h2⟩ := h
    exact IsL.drop n h2
theorem IsL.set {d : D} {v : V} (hv : Is K G d v) : ∀ {ds : List D} {xs : List V} (i : Nat), IsL K G ds xs → IsL K G (ds.set i d) (xs.set i v)
  | [], xs, _, h => by rw [show xs = [] from h]; rfl
  | e :: ds, xs, 0, h => by
    obtain ⟨x, r, rfl, h1, h2⟩ := h
    exact ⟨v, r, rfl, hv, h2⟩
  | e :: ds, xs, i + 1, h => by
    obtain ⟨x, r, rfl, h1, h2⟩ := h
    exact ⟨x, r.set i v, rfl, h1, IsL.set hv i h2⟩
theorem IsL.nil : IsL K G [] [] := rfl
theorem IsL.cons {d : D} {v : V} {ds : List D} {xs : List V} (h : Is K G d v) (t : IsL K G ds xs) : IsL K G (d :: ds) (v :: xs) := ⟨v, xs, rfl, h, t⟩
theorem isL_ints : ∀ ns : List Int, IsL K G (ns.map D.int) (ns.map V.int)
  | [] => rfl
  | n :: ns => ⟨.int n, ns.map V.int, rfl, rfl, isL_ints ns⟩
end

inductive Rs (α : Type) where
  | ok (a : α) | exc (c : Str) | bad
noncomputable def Rs.bind {α β : Type} : Rs α → (α → Rs β) → Rs β
  | .ok a, f => f a
  | .exc c, _ => .exc c
  | .bad, _ => .bad
noncomputable instance : Monad Rs where
  pure := Rs.ok
  bind := Rs.bind
theorem nodef {α : Type} {a b : α} (h : a = b) : a = b := h
@[simp] theorem ok_bind {α β : Type} (a : α) (f : α → Rs β) : (Rs.ok a >>= f) = f a := nodef rfl
@[simp] theorem exc_bind {α β : Type} (c : Str) (f : α → Rs β) : (Rs.exc c >>= f) = Rs.exc c := nodef rfl
@[simp] theorem bad_bind {α β : Type} (f : α → Rs β) : (Rs.bad >>= f) = Rs.bad := nodef rfl

structure Ext (H G H' G' : Hp) : Prop where
  hh : Same H H'
  gg : Same G G'
  gh : Same G' H'
  new : ∀ b o, G' b = some o → G b = some o ∨ H b = none
theorem Ext.trans {H G H1 G1 H2 G2 : Hp} (a : Ext H G H1 G1) (b : Ext H1 G1 H2 G2) : Ext H G H2 G2 :=
  ⟨a.hh.trans b.hh, a.gg.trans b.gg, b.gh, fun c o e => by
    rcases b.new c o e with h | h
    · exact a.new c o h
    · exact .inr (a.hh.free h)⟩
theorem Ext.refl {H G : Hp} (h : Same G H) : Ext H G H G := ⟨Same.refl _, Same.refl _, h, fun _ _ e => .inl e⟩
theorem same_upd {H : Hp} {p : Addr} (h : H p = none) (o : HO) : Same H (upd H p o) := fun b u q => by rw [upd_ne (ne_of_none q h)]; exact q
theorem Ext.laid {H G : Hp} {p : Addr} {o : HO} (gh : Same G H) (h : H p = none) : Ext H G (upd H p o) (upd G p o) := by
  have hg : G p = none := gh.free h
  refine ⟨same_upd h o, same_upd hg o, fun b u q => ?_, fun b u q => ?_⟩
  · by_cases hb : b = p
    · subst hb; rw [upd_same] at q ⊢; exact q
    · rw [upd_ne hb] at q ⊢; exact gh b u q
  · by_cases hb : b = p
    · subst hb; exact .inr h
    · rw [upd_ne hb] at q; exact .inl q
theorem Ext.own {H G : Hp} {p : Addr} {o : HO} (gh : Same G H) (h : H p = none) : Ext H G (upd H p o) G :=
  ⟨same_upd h o, Same.refl _, gh.trans (same_upd h o), fun _ _ e => .inl e⟩
end M

set_option Elab.async false
set_option linter.all false
set_option maxRecDepth 100000
set_option maxHeartbeats 4000000
namespace M
open PySem PySem.Spec PyProof.Rows L2
set_option autoImplicit false
noncomputable abbrev St := L2.St

inductive Kd where
  | l | d (ks : List Key) | t (ks : List (List Key))
noncomputable abbrev Kd.obj : Kd → List V → HO
  | .l, xs => .lst xs
  | .d ks, xs => .dK (ks.zip xs)
  | .t ks, xs => .dT (ks.zip xs)
noncomputable abbrev Kd.fit : Kd → List V → Prop
  | .l, xs => xs.length ≤ sizeLine
  | .d ks, xs => ks.length = xs.length
  | .t ks, xs => ks.length = xs.length
noncomputable def Kd.dat : Kd → List D → D
  | .l, ds => .lst ds
  | .d ks, ds => .dct ks ds
  | .t ks, ds => .dtt ks ds
inductive Sl where
  | v (d : D) | ow (k : Kd) (ds : List D)
noncomputable abbrev Sl.own (ds : List D) : Sl := .ow .l ds
noncomputable abbrev DS := List (Option Sl)

structure Rel (X : Cx) (B G₀ : Hp) (σ : St) (H G : Hp) (δ : DS) : Prop where
  ext : Ext B G₀ H G
  len : σ.length = δ.length
  val : ∀ (i : Nat) (d : D), δ[i]? = some (some (.v d)) → ∃ v, σ[i]? = some (some v) ∧ Is X.K G d v
  own : ∀ (i : Nat) {k : Kd} (ds : List D), δ[i]? = some (some (.ow k ds)) → ∃ a xs, σ[i]? = some (some (.ref a)) ∧ H a = some (k.obj xs) ∧ G a = none ∧ B a = none ∧ k.fit xs ∧ IsL X.K G ds xs
  apart : ∀ (i j : Nat) {k k' : Kd} (ds es : List D) (a : Addr), δ[i]? = some (some (.ow k ds)) → δ[j]? = some (some (.ow k' es)) → σ[i]? = some (some (.ref a)) → σ[j]? = some (some (.ref a)) → i = j

section
variable {X : Cx} {B G₀ : Hp} {σ : St} {H G H1 G1 : Hp} {δ : DS}
theorem Rel.mono (R : Rel X B G₀ σ H G δ) (e : Ext H G H1 G1) : Rel X B G₀ σ H1 G1 δ where
  ext := R.ext.trans e
  len := R.len
  val := fun i d h => let ⟨v, h1, h2⟩ := R.val i d h; ⟨v, h1, h2.same e.gg⟩
  own := fun i k ds h => by
    obtain ⟨a, xs, h1, h2, h3, h4, hz, h5⟩ := R.own i ds h
    refine ⟨a, xs, h1, e.hh _ _ h2, ?_, h4, hz, h5.same e.gg⟩
    cases q : G1 a with
    | none => rfl
    | some o =>
      rcases e.new a o q with z | z
      · rw [h3] at z; cases z
      · rw [h2] at z; cases z
  apart := R.apart
theorem Rel.lt (R : Rel X B G₀ σ H G δ) {i : Nat} {x : Option Sl} (h : δ[i]? = some x) : i < σ.length := by
  rw [R.len]; exact (List.getElem?_eq_some_iff.mp h).1
theorem Rel.set (R : Rel X B G₀ σ H G δ) (i : Nat) {d : D} {v : V} (h : Is X.K G d v) : Rel X B G₀ (σ.set i (some v)) H G (δ.set i (some (.v d))) where
  ext := R.ext
  len := by simp [R.len]
  val := fun j e q => by
    by_cases hj : i = j
    · subst hj
      rw [List.getElem?_set] at q
      simp only [if_true] at q
      split at q
      · rename_i hl
        cases q
        refine ⟨v, ?_, h⟩
        rw [List.getElem?_set]; simp only [if_true]; rw [if_pos (by rw [R.len]; exact hl)]
      · cases q
    · rw [List.getElem?_set_ne hj] at q ⊢
      exact R.val j e q
  own := fun j k0 es q => by
    by_cases hj : i = j
    · subst hj
      rw [List.getElem?_set] at q
      simp only [if_true] at q
      split at q <;> cases q
    · rw [List.getElem?_set_ne hj] at q
      obtain ⟨a, xs, h1, h2⟩ := R.own j es q
      exact ⟨a, xs, by rw [List.getElem?_set_ne hj]; exact h1, h2⟩
  apart := fun j k k1 k2 ds es a h1 h2 h3 h4 => by
    have nj : ∀ {j : Nat} {k0 : Kd} {ds : List D}, (δ.set i (some (.v d)))[j]? = some (some (.ow k0 ds)) → i ≠ j := fun {j k0 ds} q e => by
      subst e
      rw [List.getElem?_set] at q
      simp only [if_true] at q
      split at q <;> cases q
    have a1 := nj h1
    have a2 := nj h2
    rw [List.getElem?_set_ne a1] at h1 h3
    rw [List.getElem?_set_ne a2] at h2 h4
    exact R.apart j k ds es a h1 h2 h3 h4
noncomputable def shareS : Option Sl → Option Sl
  | some (.ow k ds) => some (.v (k.dat ds))
  | x => x
noncomputable def share (δ : DS) : DS := δ.map shareS
end

theorem Rel.setOwnK {X : Cx} {B G₀ : Hp} {σ : St} {H G H1 : Hp} {δ : DS} (R : Rel X B G₀ σ H G δ) (i : Nat) {kd : Kd} {ds : List D} {a : Addr} {xs : List V} (h1 : H a = none) (hh : Same H H1) (ha : H1 a = some (kd.obj xs)) (hG : Same G H1) (hz : kd.fit xs) (hI : IsL X.K G ds xs) :
    Rel X B G₀ (σ.set i (some (.ref a))) H1 G (δ.set i (some (.ow kd ds))) := by
  have R1 : Rel X B G₀ σ H1 G δ := R.mono ⟨hh, Same.refl _, hG, fun _ _ e => .inl e⟩
  have hGa : G a = none := R.ext.gh.free h1
  have hBa : B a = none := R.ext.hh.free h1
  have ne : ∀ (j : Nat) {k0 : Kd} (es : List D), δ[j]? = some (some (.ow k0 es)) → ∀ b, σ[j]? = some (some (.ref b)) → b ≠ a := fun j k0 es q b hb e => by
    obtain ⟨c, ys, q1, q2, _⟩ := R.own j es q
    rw [hb] at q1; cases q1
    rw [e, h1] at q2; cases q2
  refine ⟨R1.ext, by simp [R.len], fun j e q => ?_, fun j k0 es q => ?_, fun j k k1 k2 ds1 es1 b q1 q2 q3 q4 => ?_⟩
  · by_cases hj : i = j
    · subst hj
      rw [List.getElem?_set] at q
      simp only [if_true] at q
      split at q <;> cases q
    · rw [List.getElem?_set_ne hj] at q ⊢
      exact R1.val j e q
  · by_cases hj : i = j
    · subst hj
      rw [List.getElem?_set] at q
      simp only [if_true] at q
      split at q
      · rename_i hl
        cases q
        refine ⟨a, xs, ?_, ha, hGa, hBa, hz, hI⟩
        rw [List.getElem?_set]; simp only [if_true]; rw [if_pos (by rw [R.len]; exact hl)]
      · cases q
    · rw [List.getElem?_set_ne hj] at q
      obtain ⟨c, ys, z1, z2⟩ := R1.own j es q
      exact ⟨c, ys, by rw [List.getElem?_set_ne hj]; exact z1, z2⟩
  · have at_i : ∀ {b : Addr} {j : Nat}, i = j → (σ.set i (some (V.ref a)))[j]? = some (some (.ref b)) → b = a := fun {b j} e q => by
      subst e
      rw [List.getElem?_set] at q
      simp only [if_true] at q
      split at q
      · cases q; rfl
      · cases q
    by_cases hj : i = j
    · by_cases hk : i = k
      · exact hj.symm.trans hk
      · exfalso
        have e := at_i hj q3
        rw [List.getElem?_set_ne hk] at q2 q4
        exact ne k es1 q2 b q4 e
    · by_cases hk : i = k
      · exfalso
        have e := at_i hk q4
        rw [List.getElem?_set_ne hj] at q1 q3
        exact ne j ds1 q1 b q3 e
      · rw [List.getElem?_set_ne hj] at q1 q3
        rw [List.getElem?_set_ne hk] at q2 q4
        exact R.apart j k ds1 es1 b q1 q2 q3 q4
theorem Rel.setOwn {X : Cx} {B G₀ : Hp} {σ : St} {H G H1 : Hp} {δ : DS} (R : Rel X B G₀ σ H G δ) (i : Nat) {ds : List D} {a : Addr} {xs : List V} (h1 : H a = none) (hh : Same H H1) (ha : H1 a = some (.lst xs)) (hG : Same G H1) (hz : xs.length ≤ sizeLine) (hI : IsL X.K G ds xs) :
    Rel X B G₀ (σ.set i (some (.ref a))) H1 G (δ.set i (some (.own ds))) := R.setOwnK (kd := .l) i h1 hh ha hG hz hI
theorem Rel.writeK {X : Cx} {B G₀ : Hp} {σ : St} {H G : Hp} {δ : DS} (R : Rel X B G₀ σ H G δ) {i : Nat} {k0 k1 : Kd} {ds es : List D} {a : Addr} {ys : List V} (hi : δ[i]? = some (some (.ow k0 ds))) (hσ : σ[i]? = some (some (.ref a))) (hz : k1.fit ys) (hI : IsL X.K G es ys) :
    Rel X B G₀ σ (upd H a (k1.obj ys)) G (δ.set i (some (.ow k1 es))) := by
  obtain ⟨a', xs, h1, h2, h3, h4, hz', h5⟩ := R.own i ds hi
  rw [hσ] at h1; cases h1
  have hl : i < δ.length := (List.getElem?_eq_some_iff.mp hi).1
  have sub : ∀ {F : Hp}, F a = none → Same F H → Same F (upd H a (k1.obj ys)) := fun {F} hF s b o q => by
    rw [upd_ne (ne_of_none q hF)]; exact s b o q
  refine ⟨⟨sub h4 R.ext.hh, R.ext.gg, sub h3 R.ext.gh, R.ext.new⟩, by simp [R.len], fun j e q => ?_, fun j k2 es1 q => ?_, fun j k k2 k3 ds1 es1 b q1 q2 q3 q4 => ?_⟩
  · by_cases hj : i = j
    · subst hj
      rw [List.getElem?_set] at q
      simp only [if_true] at q
      split at q <;> cases q
    · rw [List.getElem?_set_ne hj] at q
      exact R.val j e q
  · by_cases hj : i = j
    · subst hj
      rw [List.getElem?_set] at q
      simp only [if_true] at q
      rw [if_pos hl] at q
      cases q
      exact ⟨a, ys, hσ, upd_same, h3, h4, hz, hI⟩
    · rw [List.getElem?_set_ne hj] at q
      obtain ⟨c, zs, z1, z2, z3⟩ := R.own j es1 q
      refine ⟨c, zs, z1, ?_, z3⟩
      rw [upd_ne]; exact z2
      rintro rfl
      exact hj (R.apart i j ds es1 _ hi q hσ z1)
  · have back : ∀ {j : Nat} {k4 : Kd} {ds1 : List D}, (δ.set i (some (.ow k1 es)))[j]? = some (some (.ow k4 ds1)) → ∃ k5 ds2, δ[j]? = some (some (.ow k5 ds2)) := fun {j k4 ds1} q => by
      by_cases hj : i = j
      · subst hj; exact ⟨_, ds, hi⟩
      · rw [List.getElem?_set_ne hj] at q; exact ⟨_, _, q⟩
    obtain ⟨_, d1, q1⟩ := back q1
    obtain ⟨_, d2, q2⟩ := back q2
    exact R.apart j k d1 d2 b q1 q2 q3 q4
theorem Rel.write {X : Cx} {B G₀ : Hp} {σ : St} {H G : Hp} {δ : DS} (R : Rel X B G₀ σ H G δ) {i : Nat} {k0 : Kd} {ds es : List D} {a : Addr} {ys : List V} (hi : δ[i]? = some (some (.ow k0 ds))) (hσ : σ[i]? = some (some (.ref a))) (hz : ys.length ≤ sizeLine) (hI : IsL X.K G es ys) :
    Rel X B G₀ σ (upd H a (.lst ys)) G (δ.set i (some (.own es))) := R.writeK (k1 := .l) hi hσ hz hI

noncomputable def ownAt (σ : St) (δ : DS) (a : Addr) : Prop := ∃ (i : Nat) (k : Kd) (ds : List D), δ[i]? = some (some (.ow k ds)) ∧ σ[i]? = some (some (.ref a))
open Classical in
noncomputable def withOwn (σ : St) (δ : DS) (H G : Hp) : Hp := fun b => if ownAt σ δ b then H b else G b
theorem Rel.share {X : Cx} {B G₀ : Hp} {σ : St} {H G : Hp} {δ : DS} (R : Rel X B G₀ σ H G δ) : ∃ G1, Rel X B G₀ σ H G1 (M.share δ) ∧ Same G G1 ∧ Same G1 H ∧ ∀ b o, G1 b = some o → G b = some o ∨ ownAt σ δ b := by
  have gg : Same G (withOwn σ δ H G) := fun b o q => by
    unfold withOwn
    split
    · exact R.ext.gh b o q
    · exact q
  have gh : Same (withOwn σ δ H G) H := fun b o q => by
    unfold withOwn at q
    split at q
    · exact q
    · exact R.ext.gh b o q
  have nw : ∀ b o, withOwn σ δ H G b = some o → G b = some o ∨ ownAt σ δ b := fun b o q => by
    unfold withOwn at q
    split at q
    · rename_i h; exact .inr h
    · exact .inl q
  refine ⟨withOwn σ δ H G, ?_, gg, gh, nw⟩
  have sh : ∀ (j : Nat), (M.share δ)[j]? = (δ[j]?).map shareS := fun j => by unfold M.share; rw [List.getElem?_map]
  refine ⟨⟨R.ext.hh, R.ext.gg.trans gg, gh, fun b o q => ?_⟩, by unfold M.share; rw [List.length_map]; exact R.len, fun i d q => ?_, fun i k0 ds q => ?_, fun i j k1 k2 ds es a q1 _ _ _ => ?_⟩
  · rcases nw b o q with h | ⟨i, k0, ds, h1, h2⟩
    · exact R.ext.new b o h
    · obtain ⟨a, xs, z1, z2, z3, z4, _⟩ := R.own i ds h1
      rw [h2] at z1; cases z1
      exact .inr z4
  · rw [sh] at q
    cases e : δ[i]? with
    | none => rw [e] at q; cases q
    | some s =>
      rw [e] at q
      cases s with
      | none => cases q
      | some s =>
        cases s with
        | v d' =>
          cases q
          obtain ⟨v, h1, h2⟩ := R.val i _ e
          exact ⟨v, h1, h2.same gg⟩
        | ow k ds =>
          cases q
          obtain ⟨a, xs, h1, h2, h3, h4, hz, h5⟩ := R.own i ds e
          have hw : withOwn σ δ H G a = some (k.obj xs) := by unfold withOwn; rw [if_pos ⟨i, k, ds, e, h1⟩]; exact h2
          cases k with
          | l => exact ⟨.ref a, h1, a, xs, rfl, .of hw, hz, h5.same gg⟩
          | d ks => exact ⟨.ref a, h1, a, xs, rfl, hw, hz, h5.same gg⟩
          | t ks => exact ⟨.ref a, h1, a, xs, rfl, hw, hz, h5.same gg⟩
  · rw [sh] at q
    cases e : δ[i]? with
    | none => rw [e] at q; cases q
    | some s =>
      rw [e] at q
      cases s with
      | none => cases q
      | some s => cases s <;> cases q
  · rw [sh] at q1
    cases e : δ[i]? with
    | none => rw [e] at q1; cases q1
    | some s =>
      rw [e] at q1
      cases s with
      | none => cases q1
      | some s => cases s <;> cases q1
end M

set_option Elab.async false
set_option linter.all false
set_option maxRecDepth 100000
set_option maxHeartbeats 4000000
namespace M
open PySem PySem.Spec PyProof.Rows L2
set_option autoImplicit false

structure UnB (fs : List Addr) (H H' : Hp) (h Bk h' : Heap) : Prop where
  keep : ∀ b o, h.get? b = some o → H b = none → b ∉ fs → Bk.get? b = some o
  slot : ∀ b o, h.get? b = some o → H b = none → b ∈ fs → ∃ sl, h'.get? b = some { o with slots := sl }
  free : ∀ b o, h.get? b = some o → H b = none → H' b = none
  same : Same H H'
noncomputable def Fl (Bk : Heap) (l : List Env) (e C : Addr) (h : Heap) : Prop :=
  (∃ t fl, Bk.StaysIn h ∧ Bk.get? e = none ∧ h.FunFrames Bk l ∧ h.TracedAtW Bk e (.ref C) (.ref t) fl) ∨
    ∃ h₁ vs, Bk.StaysIn h₁ ∧ h₁.FunFrames Bk l ∧ Heap.MadeExcOf h₁ h e (.ref C) vs
noncomputable def IsX (X : Cx) (c : Str) (H G : Hp) (s : Shared) (ev : Value) (s' : Shared) : Prop :=
  ∃ (e C : Addr) (Bk : Heap) (H' G' : Hp), ev = .ref e ∧ X.mg c = some (.ref C) ∧ Ext H G H' G' ∧ Fl Bk X.stack e C s'.heap ∧ s'.os = s.os ∧ AllBare s'.gens ∧ HOk X.prog X.w H' Bk ∧
    (∀ b o, H' b = some o → b ∉ frs X.stack) ∧ UnB (frs X.stack) H H' s.heap Bk s'.heap

noncomputable def Rs.wp {α : Type} (r : Rs α) (x : Str → Prop) (q : α → Prop) : Prop := match r with
  | .ok a => q a
  | .exc c => x c
  | .bad => False
theorem wp_bind {α β : Type} {r : Rs α} {f : α → Rs β} {x : Str → Prop} {q : β → Prop} : (r >>= f).wp x q ↔ r.wp x fun a => (f a).wp x q := by
  cases r <;> exact Iff.rfl
theorem Rs.wp.mono {α : Type} {r : Rs α} {x x' : Str → Prop} {q q' : α → Prop} (h : r.wp x q) (hx : ∀ c, x c → x' c) (hq : ∀ a, q a → q' a) : r.wp x' q' := by
  cases r with
  | ok a => exact hq a h
  | exc c => exact hx c h
  | bad => exact h

noncomputable def Xo (X : Cx) (c : Str) (σ : St) (H G : Hp) : Prop := ∀ (pins : List (Addr × Obj)) (s' : Shared) (H' G' : Hp) (ev : Value), Ext H G H' G' → Inv X pins σ H' s' → ∀ s'' : Shared, IsX X c H' G' s' ev s'' → X.xe ev s''
theorem Xo.mono {X : Cx} {c : Str} {σ : St} {H G H1 G1 : Hp} (e : Ext H G H1 G1) (h : Xo X c σ H G) : Xo X c σ H1 G1 := fun pins s' H' G' ev e' I x => h pins s' H' G' ev (e.trans e') I x

noncomputable def W (X : Cx) (Q : VK) (σ : St) (H G : Hp) (r : Rs D) : Prop := r.wp (fun c => Xo X c σ H G) fun d => ∀ v H' G', Ext H G H' G' → Is X.K G' d v → Q v H'
noncomputable def WT (X : Cx) (Q : Bool → Hp → Prop) (σ : St) (H G : Hp) (r : Rs Bool) : Prop := r.wp (fun c => Xo X c σ H G) fun b => ∀ H' G', Ext H G H' G' → Q b H'
noncomputable def WA (X : Cx) (Q : List V → Hp → Prop) (σ : St) (H G : Hp) (r : Rs (List D)) : Prop := r.wp (fun c => Xo X c σ H G) fun ds => ∀ vs H' G', Ext H G H' G' → IsL X.K G' ds vs → Q vs H'
section
variable {X : Cx} {σ : St} {H G H1 G1 : Hp}
theorem W.mono {Q : VK} {r : Rs D} (e : Ext H G H1 G1) (h : W X Q σ H G r) : W X Q σ H1 G1 r := Rs.wp.mono h (fun _ x => x.mono e) fun _ q v H' G' e' i => q v H' G' (e.trans e') i
theorem WT.mono {Q : Bool → Hp → Prop} {r : Rs Bool} (e : Ext H G H1 G1) (h : WT X Q σ H G r) : WT X Q σ H1 G1 r := Rs.wp.mono h (fun _ x => x.mono e) fun _ q H' G' e' => q H' G' (e.trans e')
theorem WA.mono {Q : List V → Hp → Prop} {r : Rs (List D)} (e : Ext H G H1 G1) (h : WA X Q σ H G r) : WA X Q σ H1 G1 r := Rs.wp.mono h (fun _ x => x.mono e) fun _ q v H' G' e' i => q v H' G' (e.trans e') i
end
noncomputable def tE (X : Cx) (B G₀ : Hp) (f : DS → Rs D) : TE := fun σ H Q => ∃ G δ, Rel X B G₀ σ H G δ ∧ W X Q σ H G (f δ)
noncomputable def tT (X : Cx) (B G₀ : Hp) (f : DS → Rs Bool) : TT := fun σ H Q => ∃ G δ, Rel X B G₀ σ H G δ ∧ WT X Q σ H G (f δ)
noncomputable def tAs (X : Cx) (B G₀ : Hp) (f : DS → Rs (List D)) : TA := fun σ H Q => ∃ G δ, Rel X B G₀ σ H G δ ∧ WA X Q σ H G (f δ)

section
variable {X : Cx} {B G₀ : Hp} {pins : List (Addr × Obj)} {s : Shared} {σ : St} {H G : Hp} {δ : DS}
theorem bindE {α : Type} {a : Expr} {fa : DS → Rs D} (ha : PE X a (tE X B G₀ fa)) (I : Inv X pins σ H s) (R : Rel X B G₀ σ H G δ) {k : D → Rs α} {q : α → Prop} {Post : Value → Shared → Prop}
    (hw : (fa δ >>= k).wp (fun c => Xo X c σ H G) q)
    (hk : ∀ d u v s' H' G', Inv X pins σ H' s' → Rel X B G₀ σ H' G' δ → RelV v u → Ext H G H' G' → Is X.K G' d v → (k d).wp (fun c => Xo X c σ H' G') q → Post u s') :
    wpAny (model X.prog X.w) X.A (eval a X.env) Post X.xe s := by
  rw [wp_bind] at hw
  refine thn (ha pins s σ H (fun v H' => ∃ d G', Ext H G H' G' ∧ Is X.K G' d v ∧ (k d).wp (fun c => Xo X c σ H' G') q) I ⟨G, δ, R, ?_⟩) ?_
  · exact Rs.wp.mono hw (fun _ x => x) fun d q v H' G' e i => ⟨d, G', e, i, Rs.wp.mono q (fun _ x => x.mono e) fun _ z => z⟩
  · intro u s' ⟨v, H', I', r, d, G', e, i, q⟩
    exact hk d u v s' H' G' I' (R.mono e) r e i q
theorem bindT {α : Type} {a : Expr} {fa : DS → Rs Bool} (ha : PT X a (tT X B G₀ fa)) (I : Inv X pins σ H s) (R : Rel X B G₀ σ H G δ) {k : Bool → Rs α} {q : α → Prop} {Post : Bool → Shared → Prop}
    (hw : (fa δ >>= k).wp (fun c => Xo X c σ H G) q)
    (hk : ∀ b s' H' G', Inv X pins σ H' s' → Rel X B G₀ σ H' G' δ → Ext H G H' G' → (k b).wp (fun c => Xo X c σ H' G') q → Post b s') :
    wpAny (model X.prog X.w) X.A (isTrue a X.env (eval a X.env)) Post X.xe s := by
  rw [wp_bind] at hw
  refine thn (ha pins s σ H (fun b H' => ∃ G', Ext H G H' G' ∧ (k b).wp (fun c => Xo X c σ H' G') q) I ⟨G, δ, R, ?_⟩) ?_
  · exact Rs.wp.mono hw (fun _ x => x) fun d q H' G' e => ⟨G', e, Rs.wp.mono q (fun _ x => x.mono e) fun _ z => z⟩
  · intro b s' ⟨H', I', G', e, q⟩
    exact hk b s' H' G' I' (R.mono e) e q
theorem bindA {α : Type} {es : List Expr} {fa : DS → Rs (List D)} {pos : Pos} (ha : PA X es (tAs X B G₀ fa)) (I : Inv X pins σ H s) (R : Rel X B G₀ σ H G δ) {k : List D → Rs α} {q : α → Prop} {Post : List Value → Shared → Prop}
    (hw : (fa δ >>= k).wp (fun c => Xo X c σ H G) q)
    (hk : ∀ ds us vs s' H' G', Inv X pins σ H' s' → Rel X B G₀ σ H' G' δ → Vals vs us → Ext H G H' G' → IsL X.K G' ds vs → (k ds).wp (fun c => Xo X c σ H' G') q → Post us s') :
    wpAny (model X.prog X.w) X.A (spliced (backTo pos (starEach es X.env))) Post X.xe s := by
  rw [wp_bind] at hw
  refine thn (ha pos pins s σ H (fun vs H' => ∃ ds G', Ext H G H' G' ∧ IsL X.K G' ds vs ∧ (k ds).wp (fun c => Xo X c σ H' G') q) I ⟨G, δ, R, ?_⟩) ?_
  · exact Rs.wp.mono hw (fun _ x => x) fun d q v H' G' e i => ⟨d, G', e, i, Rs.wp.mono q (fun _ x => x.mono e) fun _ z => z⟩
  · intro us s' ⟨vs, H', I', r, ds, G', e, i, q⟩
    exact hk ds us vs s' H' G' I' (R.mono e) r e i q
end

noncomputable def varD (i : Nat) : DS → Rs D := fun δ => match δ[i]? with
  | some (some (.v d)) => .ok d
  | _ => .bad
noncomputable def cD (d : D) : DS → Rs D := fun _ => .ok d
section
variable {X : Cx} {B G₀ : Hp}
theorem pd_of {e : Expr} {t : TE} {f : DS → Rs D} (h : PE X e t) (k : ∀ σ H G δ Q, Rel X B G₀ σ H G δ → W X Q σ H G (f δ) → t σ H Q) : PE X e (tE X B G₀ f) := by
  intro pins s σ H Q I ⟨G, δ, R, hw⟩
  exact h pins s σ H Q I (k σ H G δ Q R hw)
theorem pd_var (i : Nat) {x : Str} {pos : Pos} (hN : X.N[i]? = some x := by rfl) (hv : Vis X.env.scope x := by first | exact Or.inl rfl | exact Or.inr (Or.inl rfl) | exact Or.inr (Or.inr rfl)) (hd : (x == ("__debug__" : Str)) = false := by decide)
    (hcd : (x == ("__classdict__" : Str)) = false := by decide) : PE X (.Name x pos) (tE X B G₀ (varD i)) := by
  refine pd_of (pe_var hN hv hd hcd) fun σ H G δ Q R hw => ?_
  unfold varD at hw
  split at hw
  · rename_i d e
    obtain ⟨v, h1, h2⟩ := R.val i d e
    exact ⟨v, h1, hw v H G (Ext.refl R.ext.gh) h2⟩
  · exact hw.elim
theorem pd_int {i : Int} {j pos} : PE X (.Constant (.int i) j pos) (tE X B G₀ (cD (.int i))) := pd_of pe_int fun σ H G δ Q R hw => hw _ H G (Ext.refl R.ext.gh) rfl
theorem pd_bl {b : Bool} {j pos} : PE X (.Constant (.bool b) j pos) (tE X B G₀ (cD (.bl b))) := pd_of pe_bl fun σ H G δ Q R hw => hw _ H G (Ext.refl R.ext.gh) rfl
theorem pd_non {j pos} : PE X (.Constant .none j pos) (tE X B G₀ (cD .non)) := pd_of pe_non fun σ H G δ Q R hw => hw _ H G (Ext.refl R.ext.gh) rfl
theorem pd_str {x : Str} {j pos} (hx : x.length ≤ sizeLine := by decide +kernel) (ho : PyData.strOk x = true := by decide +kernel) : PE X (.Constant (.str x) j pos) (tE X B G₀ (cD (.str x))) := pd_of pe_str fun σ H G δ Q R hw => hw _ H G (Ext.refl R.ext.gh) ⟨rfl, hx, ho⟩
theorem pd_gint {x : Str} {i : Int} {t : Tok} {pos : Pos} (hm : X.mg x = some (.int i t)) (hg : Gl X x := by rfl) (hd : (x == ("__debug__" : Str)) = false := by decide) : PE X (.Name x pos) (tE X B G₀ (cD (.int i))) :=
  pd_of (pe_glob (v := .int i) hg hm ⟨t, rfl⟩ hd) fun σ H G δ Q R hw => hw _ H G (Ext.refl R.ext.gh) rfl

noncomputable def OpD (X : Cx) (f : Value → Value → Sem Value) (g : D → D → Rs D) : Prop :=
  ∀ (pins : List (Addr × Obj)) (s : Shared) (σ : St) (H G : Hp) (Q : VK) (d1 d2 : D) (x y : V) (v u : Value), Inv X pins σ H s → Same G H → RelV x v → RelV y u → Is X.K G d1 x → Is X.K G d2 y → W X Q σ H G (g d1 d2) →
    wpAny (model X.prog X.w) X.A (f v u) (EP X pins σ Q) X.xe s
theorem opD_of {f : Value → Value → Sem Value} {r : R2} {g : D → D → Rs D} (ho : OpR X f r) (h : ∀ σ H G Q d1 d2 x y, Same G H → Is X.K G d1 x → Is X.K G d2 y → W X Q σ H G (g d1 d2) → r x y H Q) : OpD X f g :=
  fun pins s σ H G Q d1 d2 x y v u I gh rx ry i1 i2 hw => ho pins s σ H x y v u Q I rx ry (h σ H G Q d1 d2 x y gh i1 i2 hw)
variable {a b c : Expr} {fa fb fc : DS → Rs D} {pos : Pos}
theorem pd_bin {op : Operator} {g : D → D → Rs D} (ho : OpD X (binaryOp op) g) (ha : PE X a (tE X B G₀ fa)) (hb : PE X b (tE X B G₀ fb)) : PE X (.BinOp a op b pos) (tE X B G₀ fun δ => fa δ >>= fun x => fb δ >>= fun y => g x y) := by
  intro pins s σ H Q I ⟨G, δ, R, hw⟩
  exact wpAny_BinOp (bindE ha I R hw fun d1 u1 v1 s1 H1 G1 I1 R1 r1 e1 i1 hw1 => bindE hb I1 R1 hw1 fun d2 u2 v2 s2 H2 G2 I2 R2 r2 e2 i2 hw2 =>
    ho pins s2 σ H2 G2 Q d1 d2 v1 v2 u1 u2 I2 R2.ext.gh r1 r2 (i1.same e2.gg) i2 (Rs.wp.mono hw2 (fun _ x => x) fun d q v H' G' e' => q v H' G' ((e1.trans e2).trans e')))
theorem pd_cmp {op : CmpOp} {g : D → D → Rs D} (ho : OpD X (compareOp op) g) (ha : PE X a (tE X B G₀ fa)) (hb : PE X b (tE X B G₀ fb)) (hm : behindInMarks op b = false := by first | exact nobehind _ (by decide) (by decide) | rfl) :
    PE X (.Compare a [op] [b] pos) (tE X B G₀ fun δ => fa δ >>= fun x => fb δ >>= fun y => g x y) := by
  intro pins s σ H Q I ⟨G, δ, R, hw⟩
  exact wpAny_Compare1 (bindE ha I R hw fun d1 u1 v1 s1 H1 G1 I1 R1 r1 e1 i1 hw1 => bindE hb I1 R1 hw1 fun d2 u2 v2 s2 H2 G2 I2 R2 r2 e2 i2 hw2 =>
    ho pins s2 σ H2 G2 Q d1 d2 v1 v2 u1 u2 I2 R2.ext.gh r1 r2 (i1.same e2.gg) i2 (Rs.wp.mono hw2 (fun _ x => x) fun d q v H' G' e' => q v H' G' ((e1.trans e2).trans e'))) hm
end
end M

set_option Elab.async false
set_option linter.all false
set_option maxRecDepth 100000
set_option maxHeartbeats 4000000
namespace M
open PySem PySem.Spec PyProof.Rows L2
set_option autoImplicit false

mutual
noncomputable def toP : D → PyData
  | .non => .none
  | .bl b => .bool b
  | .int i => .int i
  | .str x => .str x
  | .tup ds => .tuple (toPs ds)
  | .lst ds => .list (toPs ds)
  | .dct _ _ => .none
  | .dtt _ _ => .none
  | .exn _ => .none
noncomputable def toPs : List D → List PyData
  | [] => []
  | d :: ds => toP d :: toPs ds
end
mutual
noncomputable def lay : D → Bool
  | .tup ds => layL ds
  | .lst ds => layL ds
  | .dct _ _ => false
  | .dtt _ _ => false
  | .exn _ => false
  | _ => true
noncomputable def layL : List D → Bool
  | [] => true
  | d :: ds => lay d && layL ds
end
section
variable {X : Cx} {pins : List (Addr × Obj)} {s : Shared} {σ : St} {H : Hp}
mutual
theorem reads_of (I : Inv X pins σ H s) : ∀ {d : D} {v : V} {u : Value}, lay d = true → RelV v u → Is X.K H d v → (∃ as, Reads s.heap u (toP d) as) ∧ (toP d).canLay0 = true
  | .non, v, u, hl, r, h => by
    cases (show v = .non from h)
    cases (show u = .none from r)
    exact ⟨⟨_, .none⟩, rfl⟩
  | .bl b, v, u, hl, r, h => by
    cases (show v = .bl b from h)
    cases (show u = .bool b from r)
    exact ⟨⟨_, .bool b⟩, rfl⟩
  | .int i, v, u, hl, r, h => by
    cases (show v = .int i from h)
    obtain ⟨t, rfl⟩ := (show ∃ t, u = .int i t from r)
    exact ⟨⟨_, .int i t⟩, rfl⟩
  | .str x, v, u, hl, r, h => by
    obtain ⟨rfl, _, h3⟩ := (show v = .str x ∧ x.length ≤ sizeLine ∧ PyData.strOk x = true from h)
    obtain ⟨t, rfl⟩ := (show ∃ t, u = .str x t from r)
    exact ⟨⟨_, .str x t⟩, h3⟩
  | .tup ds, v, u, hl, r, h => by
    obtain ⟨a, xs, rfl, h1, h2, h3⟩ := h
    cases (show u = .ref a from r)
    obtain ⟨its, rv, ⟨o, e1, e2, n, e3⟩, _⟩ := I.tuple h1
    obtain ⟨⟨as, q⟩, c⟩ := readsL_of I hl rv h3
    exact ⟨⟨_, .tuple e1 e2 e3 (by simpa using q)⟩, c⟩
  | .lst ds, v, u, hl, r, h => by
    obtain ⟨a, xs, rfl, h1, h2, h3⟩ := h
    cases (show u = .ref a from r)
    obtain ⟨its, rv, ⟨o, n, e1, e2, _, e3⟩, _⟩ := I.list h1
    obtain ⟨⟨as, q⟩, c⟩ := readsL_of I hl rv h3
    exact ⟨⟨_, .list e1 e2 e3 (by simpa using q)⟩, c⟩
  | .dct ks ds, v, u, hl, r, h => by cases hl
  | .dtt ks ds, v, u, hl, r, h => by cases hl
  | .exn c, v, u, hl, r, h => by cases hl
theorem readsL_of (I : Inv X pins σ H s) : ∀ {ds : List D} {vs : List V} {us : List Value}, layL ds = true → Vals vs us → IsL X.K H ds vs → (∃ as, ReadsAll s.heap us (toPs ds) as) ∧ PyData.canLayAll0 (toPs ds) = true
  | [], vs, us, hl, r, h => by
    rw [show vs = [] from h] at r
    cases r
    exact ⟨⟨_, .nil⟩, rfl⟩
  | d :: ds, vs, us, hl, r, h => by
    obtain ⟨x, xs, rfl, h1, h2⟩ := h
    obtain ⟨l1, l2⟩ := Bool.and_eq_true_iff.mp (show (lay d && layL ds) = true from hl)
    cases r with
    | cons r1 r2 =>
      obtain ⟨⟨as, q1⟩, c1⟩ := reads_of I l1 r1 h1
      obtain ⟨⟨bs, q2⟩, c2⟩ := readsL_of I l2 r2 h2
      exact ⟨⟨_, .cons q1 q2⟩, by rw [toPs, PyData.canLayAll0, c1, c2]; rfl⟩
end
end

noncomputable def eqB (a b : D) : Bool := PyData.eqv (toP a) (toP b)
noncomputable def flat2 (a b : D) : Bool := decide (min (toP a).depth (toP b).depth ≤ 64) && (lay a && lay b)
noncomputable def eqR (a b : D) : Rs D := if flat2 a b = true then .ok (.bl (eqB a b)) else .bad
noncomputable def neR (a b : D) : Rs D := if flat2 a b = true then .ok (.bl (!eqB a b)) else .bad
noncomputable def small (i : Int) : Bool := decide (-(2 ^ 64) < i ∧ i < 2 ^ 64)
noncomputable def addR : D → D → Rs D
  | .int i, .int j => .ok (.int (i + j))
  | .str i, .str j => if i.length + j.length ≤ sizeLine then .ok (.str (i ++ j)) else .bad
  | _, _ => .bad
noncomputable def subR : D → D → Rs D
  | .int i, .int j => .ok (.int (i - j))
  | _, _ => .bad
noncomputable def mulR : D → D → Rs D
  | .int i, .int j => if (small i || small j) = true then .ok (.int (i * j)) else .bad
  | _, _ => .bad
noncomputable def fdivR : D → D → Rs D
  | .int i, .int j => if 0 < j ∧ j < 1073741824 then .ok (.int (i / j)) else .bad
  | _, _ => .bad
noncomputable def modR : D → D → Rs D
  | .int i, .int j => if 0 < j then .ok (.int (i % j)) else .bad
  | _, _ => .bad
noncomputable def powR : D → D → Rs D
  | .int i, .int j => if 0 ≤ j ∧ j ≤ 1000000 ∧ i.natAbs < 2 ^ 64 then .ok (.int (i ^ j.toNat)) else .bad
  | _, _ => .bad
noncomputable def cmpR (p : Int → Int → Bool) : D → D → Rs D
  | .int i, .int j => .ok (.bl (p i j))
  | _, _ => .bad
noncomputable def isNR : D → D → Rs D
  | .non, .non => .ok (.bl true)
  | _, .non => .ok (.bl false)
  | _, _ => .bad
noncomputable def isNotR : D → D → Rs D
  | .non, .non => .ok (.bl false)
  | _, .non => .ok (.bl true)
  | _, _ => .bad
theorem strOk_append {a b : Str} (ha : PyData.strOk a = true) (hb : PyData.strOk b = true) : PyData.strOk (a ++ b) = true := by
  unfold PyData.strOk at *
  rw [show (a ++ b).cps = a.cps ++ b.cps from rfl, Array.all_append, ha, hb]; rfl
section
variable {X : Cx} {B G₀ : Hp}
theorem wIf {Q : VK} {σ : St} {H G : Hp} {r : Rs D} {c : Prop} [Decidable c] (h : W X Q σ H G (if c then r else .bad)) : c ∧ W X Q σ H G r := by
  split at h
  · rename_i hc; exact ⟨hc, h⟩
  · exact h.elim
theorem wOk {Q : VK} {σ : St} {H G : Hp} {d : D} (h : W X Q σ H G (.ok d)) (gh : Same G H) {v : V} (i : Is X.K G d v) : Q v H := h v H G (Ext.refl gh) i
theorem od_add : OpD X (binaryOp .Add) addR := by
  intro pins s σ H G Q d1 d2 x y v u I gh rx ry i1 i2 hw
  cases d1 with
  | int i =>
    cases d2 with
    | int j => exact op_add pins s σ H x y v u Q I rx ry ⟨i, j, i1, i2, wOk hw gh rfl⟩
    | _ => exact hw.elim
  | str i =>
    cases d2 with
    | str j =>
      obtain ⟨hz, hw⟩ := wIf (r := .ok (.str (i ++ j))) (c := i.length + j.length ≤ sizeLine) hw
      have hl : (i ++ j).length = i.length + j.length := by simp [Str.length, show (i ++ j).cps = i.cps ++ j.cps from rfl]
      exact op_add_str pins s σ H x y v u Q I rx ry ⟨i, j, i1.1, i2.1, hz, wOk hw gh ⟨rfl, by rw [hl]; exact hz, strOk_append i1.2.2 i2.2.2⟩⟩
    | _ => exact hw.elim
  | _ => cases d2 <;> exact hw.elim
theorem od_sub : OpD X (binaryOp .Sub) subR := opD_of op_sub fun σ H G Q d1 d2 x y gh i1 i2 hw => by
  cases d1 <;> cases d2 <;> first | exact hw.elim | exact ⟨_, _, i1, i2, wOk hw gh rfl⟩
theorem od_mul : OpD X (binaryOp .Mult) mulR := opD_of op_mul fun σ H G Q d1 d2 x y gh i1 i2 hw => by
  cases d1 with
  | int i =>
    cases d2 with
    | int j =>
      obtain ⟨h, hw⟩ := wIf (r := .ok (.int (i * j))) (c := (small i || small j) = true) hw
      refine ⟨i, j, i1, i2, ?_, wOk hw gh rfl⟩
      rw [Bool.or_eq_true] at h
      rcases h with h | h
      · exact .inl (of_decide_eq_true h)
      · exact .inr (of_decide_eq_true h)
    | _ => exact hw.elim
  | _ => cases d2 <;> exact hw.elim
theorem od_fdiv : OpD X (binaryOp .FloorDiv) fdivR := opD_of op_fdiv fun σ H G Q d1 d2 x y gh i1 i2 hw => by
  cases d1 with
  | int i =>
    cases d2 with
    | int j =>
      obtain ⟨h, hw⟩ := wIf (r := .ok (.int (i / j))) (c := 0 < j ∧ j < 1073741824) hw
      exact ⟨i, j, i1, i2, h, wOk hw gh rfl⟩
    | _ => exact hw.elim
  | _ => cases d2 <;> exact hw.elim
theorem od_mod : OpD X (binaryOp .Mod) modR := opD_of op_mod fun σ H G Q d1 d2 x y gh i1 i2 hw => by
  cases d1 with
  | int i =>
    cases d2 with
    | int j =>
      obtain ⟨h, hw⟩ := wIf (r := .ok (.int (i % j))) (c := 0 < j) hw
      exact ⟨i, j, i1, i2, h, wOk hw gh rfl⟩
    | _ => exact hw.elim
  | _ => cases d2 <;> exact hw.elim
theorem od_pow : OpD X (binaryOp .Pow) powR := opD_of op_pow fun σ H G Q d1 d2 x y gh i1 i2 hw => by
  cases d1 with
  | int i =>
    cases d2 with
    | int j =>
      obtain ⟨h, hw⟩ := wIf (r := .ok (.int (i ^ j.toNat))) (c := 0 ≤ j ∧ j ≤ 1000000 ∧ i.natAbs < 2 ^ 64) hw
      exact ⟨i, j, i1, i2, h, wOk hw gh rfl⟩
    | _ => exact hw.elim
  | _ => cases d2 <;> exact hw.elim
theorem od_cmp {op : CmpOp} {p : Int → Int → Bool} (ho : OpR X (compareOp op) (rI0 fun i j => .bl (p i j))) : OpD X (compareOp op) (cmpR p) := opD_of ho fun σ H G Q d1 d2 x y gh i1 i2 hw => by
  cases d1 <;> cases d2 <;> first | exact hw.elim | exact ⟨_, _, i1, i2, wOk hw gh rfl⟩
theorem od_lt : OpD X (compareOp .Lt) (cmpR fun i j => decide (i < j)) := od_cmp op_lt
theorem od_le : OpD X (compareOp .LtE) (cmpR fun i j => decide (i ≤ j)) := od_cmp op_le
theorem od_gt : OpD X (compareOp .Gt) (cmpR fun i j => decide (j < i)) := od_cmp op_gt
theorem od_ge : OpD X (compareOp .GtE) (cmpR fun i j => decide (j ≤ i)) := od_cmp op_ge
theorem od_eq (hu : X.A.units + 64 < cLine) : OpD X (compareOp .Eq) eqR := by
  intro pins s σ H G Q d1 d2 x y v u I gh rx ry i1 i2 hw
  unfold eqR at hw
  split at hw
  · rename_i h
    obtain ⟨h, l12⟩ := Bool.and_eq_true_iff.mp h
    obtain ⟨l1, l2⟩ := Bool.and_eq_true_iff.mp l12
    obtain ⟨⟨as, r1⟩, c1⟩ := reads_of I l1 rx (i1.same gh)
    obtain ⟨⟨bs, r2⟩, c2⟩ := reads_of I l2 ry (i2.same gh)
    have h' : min (toP d1).depth (toP d2).depth ≤ 64 := of_decide_eq_true h
    exact SeqAt.compareEq_reads r1 r2 c1 c2 (by omega) ⟨.bl _, H, I, rfl, wOk hw gh rfl⟩
  · exact hw.elim
theorem od_ne (hu : X.A.units + 64 < cLine) : OpD X (compareOp .NotEq) neR := by
  intro pins s σ H G Q d1 d2 x y v u I gh rx ry i1 i2 hw
  unfold neR at hw
  split at hw
  · rename_i h
    obtain ⟨h, l12⟩ := Bool.and_eq_true_iff.mp h
    obtain ⟨l1, l2⟩ := Bool.and_eq_true_iff.mp l12
    obtain ⟨⟨as, r1⟩, c1⟩ := reads_of I l1 rx (i1.same gh)
    obtain ⟨⟨bs, r2⟩, c2⟩ := reads_of I l2 ry (i2.same gh)
    have h' : min (toP d1).depth (toP d2).depth ≤ 64 := of_decide_eq_true h
    exact SeqAt.compareNe_reads r1 r2 c1 c2 (by omega) ⟨.bl _, H, I, rfl, wOk hw gh rfl⟩
  · exact hw.elim
end

noncomputable def truB : D → Bool
  | .non => false
  | .bl b => b
  | .int i => i != 0
  | .str x => (x.length : Int) != 0
  | .tup ds => !ds.isEmpty
  | .lst ds => !ds.isEmpty
  | .dct _ _ => false
  | .dtt _ _ => false
  | .exn _ => false
noncomputable def truR : D → Rs Bool
  | .dct _ _ => .bad
  | .dtt _ _ => .bad
  | .exn _ => .bad
  | d => .ok (truB d)
theorem truR_ok {d : D} {b : Bool} (h : truR d = .ok b) : b = truB d ∧ (∀ ks ds, d ≠ .dct ks ds) ∧ ∀ ks ds, d ≠ .dtt ks ds := by
  cases d <;> first | (cases h; exact ⟨rfl, fun _ _ z => (nomatch z), fun _ _ z => (nomatch z)⟩) | cases h
theorem truR_ne {d : D} {c : Str} : truR d ≠ .exc c := by cases d <;> (intro h; cases h)
section
variable {X : Cx} {B G₀ : Hp} {a b c : Expr} {fa fb fc : DS → Rs D} {ga gb : DS → Rs Bool} {pos : Pos} {rest : List Expr}
theorem IsL.empty {K : PySem.W.Frag} {G : Hp} {ds : List D} {xs : List V} (h : IsL K G ds xs) : xs.isEmpty = ds.isEmpty := by
  have := h.length
  cases xs <;> cases ds <;> simp_all
theorem tru_of {K : PySem.W.Frag} {H : Hp} {d : D} {v : V} {b : Bool} (hb : truR d = .ok b) (h : Is K H d v) : TruV K v H b := by
  obtain ⟨rfl, _, _⟩ := truR_ok hb
  cases d with
  | non => cases (show v = .non from h); rfl
  | bl b => cases (show v = .bl b from h); rfl
  | int i => cases (show v = .int i from h); rfl
  | str x => obtain ⟨rfl, h2, _⟩ := h; exact ⟨h2, rfl⟩
  | tup ds => obtain ⟨a, xs, rfl, h1, _, h3⟩ := h; exact .inr (.inl ⟨xs, h1, by rw [h3.empty]; rfl⟩)
  | lst ds => obtain ⟨a, xs, rfl, h1, _, h3⟩ := h; exact .inl ⟨xs, h1, by rw [h3.empty]; rfl⟩
  | dct ks ds => cases hb
  | dtt ks ds => cases hb
  | exn c => cases hb
theorem tru_then {X : Cx} {B G₀ : Hp} {pins : List (Addr × Obj)} {s : Shared} {σ : St} {H G : Hp} {δ : DS} {α : Type} {d : D} {v : V} {u : Value} {k : Bool → Rs α} {q : α → Prop} {Post : Bool → Shared → Prop} (I : Inv X pins σ H s) (R : Rel X B G₀ σ H G δ) (r : RelV v u) (i : Is X.K G d v)
    (hw : (truR d >>= k).wp (fun c => Xo X c σ H G) q) (hk : ∀ b s', Inv X pins σ H s' → (k b).wp (fun c => Xo X c σ H G) q → Post b s') : wpAny (model X.prog X.w) X.A (truthy u) Post X.xe s := by
  cases hb : truR d with
  | ok b =>
    rw [hb] at hw
    refine thn (tru_ok pins s σ H v u (fun k H' => k = b ∧ H' = H) I r ⟨_, tru_of hb (i.same R.ext.gh), rfl, rfl⟩) fun k' s2 ⟨H2, I2, hk', hH⟩ => ?_
    subst hk'; subst hH
    exact hk _ s2 I2 hw
  | exc c => exact (truR_ne hb).elim
  | bad => rw [hb] at hw; exact hw.elim
theorem bind_ok' {α : Type} (r : Rs α) : (r >>= fun b => Rs.ok b) = r := by cases r <;> rfl
theorem pdt_val (ha : PE X a (tE X B G₀ fa)) (he : ∀ whole, isTrue a X.env whole = (do let v ← whole; standAt a.pos; holding [v] (truthy v)) := by intro _; rfl) : PT X a (tT X B G₀ fun δ => fa δ >>= fun d => truR d) := by
  intro pins s σ H Q I ⟨G, δ, R, hw⟩
  refine isTrue_plain (bindE ha I R hw fun d u v s1 H1 G1 I1 R1 r1 e1 i1 hw1 => ?_) (he _)
  rw [← bind_ok' (truR d)] at hw1
  exact tru_then I1 R1 r1 i1 hw1 fun b s' I' q => ⟨H1, I', q H1 G1 e1⟩
theorem pdt_cmp {op : CmpOp} {g : D → D → Rs D} (ho : OpD X (compareOp op) g) (ha : PE X a (tE X B G₀ fa)) (hb : PE X b (tE X B G₀ fb)) (hm : behindInMarks op b = false := by first | exact nobehind _ (by decide) (by decide) | rfl) :
    PT X (.Compare a [op] [b] pos) (tT X B G₀ fun δ => fa δ >>= fun x => fb δ >>= fun y => g x y >>= fun d => truR d) := by
  intro pins s σ H Q I ⟨G, δ, R, hw⟩
  refine wpAny_isTrue_Compare1 (bindE ha I R hw fun d1 u1 v1 s1 H1 G1 I1 R1 r1 e1 i1 hw1 => bindE hb I1 R1 hw1 fun d2 u2 v2 s2 H2 G2 I2 R2 r2 e2 i2 hw2 => ?_) hm
  rw [wp_bind] at hw2
  refine thn (ho pins s2 σ H2 G2 (fun v H' => ∃ d G', Ext H2 G2 H' G' ∧ Is X.K G' d v ∧ (truR d).wp (fun c => Xo X c σ H' G') fun b => ∀ H' G', Ext H G H' G' → Q b H') d1 d2 v1 v2 u1 u2 I2 R2.ext.gh r1 r2 (i1.same e2.gg) i2
    (Rs.wp.mono hw2 (fun _ x => x) fun d q v H' G' e' i' => ⟨d, G', e', i', Rs.wp.mono q (fun _ x => x.mono e') fun _ z => z⟩)) fun u3 s3 ⟨v3, H3, I3, r3, d, G3, e3, i3, q⟩ => ?_
  rw [← bind_ok' (truR d)] at q
  exact tru_then I3 (R2.mono e3) r3 i3 q fun b s' I' q' => ⟨H3, I', q' H3 G3 ((e1.trans e2).trans e3)⟩
theorem pdt_not (ha : PT X a (tT X B G₀ ga)) : PT X (.UnaryOp .Not a pos) (tT X B G₀ fun δ => ga δ >>= fun b => .ok (!b)) := by
  intro pins s σ H Q I ⟨G, δ, R, hw⟩
  exact isTrue_not (bindT ha I R hw fun b s1 H1 G1 I1 R1 e1 hw1 => ⟨H1, I1, hw1 H1 G1 e1⟩)
theorem pw_one {op : BoolOp} (h : op = .And ∨ op = .Or) (ha : PT X a (tT X B G₀ ga)) : PW X (.BoolOp op [a] pos) (tT X B G₀ ga) := by
  rcases h with rfl | rfl
  · exact pw_and1 ha
  · exact pw_or1 ha
theorem pdw_and (ha : PT X a (tT X B G₀ ga)) (hb : PW X (.BoolOp .And (b :: rest) pos) (tT X B G₀ gb)) : PW X (.BoolOp .And (a :: b :: rest) pos) (tT X B G₀ fun δ => ga δ >>= fun c => if c = true then gb δ else .ok false) := by
  intro wh pins s σ H Q I ⟨G, δ, R, hw⟩
  refine isTrue_and (bindT ha I R hw fun c s1 H1 G1 I1 R1 e1 hw1 => ?_)
  cases c with
  | true => exact hb wh pins s1 σ H1 Q I1 ⟨G1, δ, R1, Rs.wp.mono hw1 (fun _ x => x) fun b q H' G' e' => q H' G' (e1.trans e')⟩
  | false => exact ⟨H1, I1, hw1 H1 G1 e1⟩
theorem pdw_or (ha : PT X a (tT X B G₀ ga)) (hb : PW X (.BoolOp .Or (b :: rest) pos) (tT X B G₀ gb)) : PW X (.BoolOp .Or (a :: b :: rest) pos) (tT X B G₀ fun δ => ga δ >>= fun c => if c = true then .ok true else gb δ) := by
  intro wh pins s σ H Q I ⟨G, δ, R, hw⟩
  refine isTrue_or (bindT ha I R hw fun c s1 H1 G1 I1 R1 e1 hw1 => ?_)
  cases c with
  | true => exact ⟨H1, I1, hw1 H1 G1 e1⟩
  | false => exact hb wh pins s1 σ H1 Q I1 ⟨G1, δ, R1, Rs.wp.mono hw1 (fun _ x => x) fun b q H' G' e' => q H' G' (e1.trans e')⟩
theorem pd_one {op : BoolOp} (ha : PE X a (tE X B G₀ fa)) : PE X (.BoolOp op [a] pos) (tE X B G₀ fa) := pe_one ha
theorem pd_and (ha : PE X a (tE X B G₀ fa)) (hb : PE X (.BoolOp .And (b :: rest) pos) (tE X B G₀ fb)) : PE X (.BoolOp .And (a :: b :: rest) pos) (tE X B G₀ fun δ => fa δ >>= fun x => truR x >>= fun k => if k = true then fb δ else .ok x) := by
  intro pins s σ H Q I ⟨G, δ, R, hw⟩
  refine BoolOp_and (bindE ha I R hw fun d u v s1 H1 G1 I1 R1 r1 e1 i1 hw1 => ?_)
  refine tru_then I1 R1 r1 i1 hw1 fun k s2 I2 hw2 => ?_
  cases k with
  | true => exact hb pins s2 σ _ Q I2 ⟨G1, δ, R1, Rs.wp.mono hw2 (fun _ x => x) fun d q v H' G' e' => q v H' G' (e1.trans e')⟩
  | false => exact ⟨v, _, I2, r1, hw2 v _ G1 e1 i1⟩
theorem pd_not (ha : PE X a (tE X B G₀ fa)) : PE X (.UnaryOp .Not a pos) (tE X B G₀ fun δ => fa δ >>= fun x => truR x >>= fun k => .ok (.bl (!k))) := by
  intro pins s σ H Q I ⟨G, δ, R, hw⟩
  refine UnaryOp_ (bindE ha I R hw fun d u v s1 H1 G1 I1 R1 r1 e1 i1 hw1 => ?_)
  refine not_of (tru_then I1 R1 r1 i1 hw1 fun k s2 I2 hw2 => ?_)
  exact ⟨.bl _, _, I2, rfl, hw2 _ _ G1 e1 rfl⟩
theorem pd_neg (ha : PE X a (tE X B G₀ fa)) : PE X (.UnaryOp .USub a pos) (tE X B G₀ fun δ => fa δ >>= fun x => match x with | .int i => .ok (.int (-i)) | _ => .bad) := by
  intro pins s σ H Q I ⟨G, δ, R, hw⟩
  refine UnaryOp_ (bindE ha I R hw fun d u v s1 H1 G1 I1 R1 r1 e1 i1 hw1 => ?_)
  cases d with
  | int i => exact un_neg pins s1 σ H1 v u Q I1 r1 ⟨i, i1, hw1 _ H1 G1 e1 rfl⟩
  | _ => exact hw1.elim
theorem pd_chain {op op' : CmpOp} {g g' : D → D → Rs D} (ho : OpD X (compareOp op) g) (ho' : OpD X (compareOp op') g') (ha : PE X a (tE X B G₀ fa)) (hb : PE X b (tE X B G₀ fb)) (hc : PE X c (tE X B G₀ fc))
    (hm : lastMarks [op, op'] [b, c] = false := by with_unfolding_all rfl) : PE X (.Compare a [op, op'] [b, c] pos) (tE X B G₀ fun δ => fa δ >>= fun x => fb δ >>= fun y => g x y >>= fun z => match z with
      | .bl true => fc δ >>= fun w => g' y w
      | .bl false => .ok (.bl false)
      | _ => .bad) := by
  intro pins s σ H Q I ⟨G, δ, R, hw⟩
  refine Compare_chain (bindE ha I R hw fun d1 u1 v1 s1 H1 G1 I1 R1 r1 e1 i1 hw1 => chain_link (bindE hb I1 R1 hw1 fun d2 u2 v2 s2 H2 G2 I2 R2 r2 e2 i2 hw2 => ?_)) hm
  rw [wp_bind] at hw2
  refine thn (ho pins s2 σ H2 G2 (fun v H' => ∃ d G', Ext H2 G2 H' G' ∧ Is X.K G' d v ∧ (match d with
      | .bl true => fc δ >>= fun w => g' d2 w
      | .bl false => .ok (.bl false)
      | _ => .bad : Rs D).wp (fun c => Xo X c σ H' G') fun d => ∀ v H' G', Ext H G H' G' → Is X.K G' d v → Q v H') d1 d2 v1 v2 u1 u2 I2 R2.ext.gh r1 r2 (i1.same e2.gg) i2
    (Rs.wp.mono hw2 (fun _ x => x) fun d q v H' G' e' i' => ⟨d, G', e', i', Rs.wp.mono q (fun _ x => x.mono e') fun _ z => z⟩)) fun u3 s3 ⟨v3, H3, I3, r3, d, G3, e3, i3, q⟩ => ?_
  cases d with
  | bl k =>
    cases (show v3 = .bl k from i3)
    cases (show u3 = .bool k from r3)
    refine wpAny_truthy_bool ?_
    have R3 := R2.mono e3
    cases k with
    | false => exact ite_ff ⟨.bl false, H3, I3, rfl, q _ H3 G3 ((e1.trans e2).trans e3) rfl⟩
    | true =>
      refine ite_tt (chain_last (bindE hc I3 R3 q fun d4 u4 v4 s4 H4 G4 I4 R4 r4 e4 i4 hw4 => ?_))
      exact ho' pins s4 σ H4 G4 Q d2 d4 v2 v4 u2 u4 I4 R4.ext.gh r2 r4 (i2.same (e3.trans e4).gg) i4 (Rs.wp.mono hw4 (fun _ x => x) fun d q v H' G' e' => q v H' G' (((e1.trans e2).trans (e3.trans e4)).trans e'))
  | _ => exact q.elim
end
end M

set_option Elab.async false
set_option linter.all false
set_option maxRecDepth 100000
set_option maxHeartbeats 4000000
namespace M
open PySem PySem.Spec PyProof.Rows L2
set_option autoImplicit false
theorem thousand : 1000 ≤ sizeLine := by decide

section
variable {X : Cx} {B G₀ : Hp} {a b e o : Expr} {es : List Expr} {fa fb fe fo : DS → Rs D} {fr : DS → Rs (List D)} {pos : Pos}
theorem wmono {Q : VK} {σ : St} {H G H1 G1 : Hp} {r : Rs D} (h : r.wp (fun c => Xo X c σ H1 G1) fun d => ∀ v H' G', Ext H G H' G' → Is X.K G' d v → Q v H') (e : Ext H G H1 G1) : W X Q σ H1 G1 r :=
  Rs.wp.mono h (fun _ x => x) fun d q v H' G' e' => q v H' G' (e.trans e')
theorem pda_nil : PA X [] (tAs X B G₀ fun _ => .ok []) := fun pos pins s σ H Q I ⟨G, δ, R, hw⟩ => Calls.spliced_nil ⟨[], H, I, .nil, hw [] H G (Ext.refl R.ext.gh) rfl⟩
theorem pda_cons (ha : PE X e (tE X B G₀ fe)) (hr : PA X es (tAs X B G₀ fr)) (hs : starEach (e :: es) X.env = (false, eval e X.env) :: starEach es X.env := by rfl) :
    PA X (e :: es) (tAs X B G₀ fun δ => fe δ >>= fun d => fr δ >>= fun ds => .ok (d :: ds)) := by
  intro pos pins s σ H Q I ⟨G, δ, R, hw⟩
  rw [hs]
  show wpAny _ _ (spliced ((false, eval e X.env) :: backTo pos (starEach es X.env))) _ _ s
  refine Calls.spliced_cons (bindE ha I R hw fun d u v s1 H1 G1 I1 R1 r1 e1 i1 hw1 => ?_)
  exact bindA hr I1 R1 hw1 fun ds us vs s2 H2 G2 I2 R2 r2 e2 i2 hw2 => ⟨v :: vs, H2, I2, .cons r1 r2, hw2 _ H2 G2 (e1.trans e2) (.cons (i1.same e2.gg) i2)⟩
noncomputable def tupR (ds : List D) : Rs D := if ds.length ≤ 1000 then .ok (.tup ds) else .bad
noncomputable def lstR (ds : List D) : Rs D := if ds.length ≤ 1000 then .ok (.lst ds) else .bad
theorem pd_tup {x1} (h : PA X es (tAs X B G₀ fr)) : PE X (.Tuple es x1 pos) (tE X B G₀ fun δ => fr δ >>= tupR) := by
  refine pd_of (pe_tup h) fun σ H G δ Q R hw => ?_
  refine ⟨G, δ, R, ?_⟩
  unfold W at hw
  rw [wp_bind] at hw
  refine Rs.wp.mono hw (fun _ x => x) fun ds q vs H1 G1 e1 i1 => ?_
  unfold tupR at q
  split at q
  · rename_i hl
    have hl' := i1.length
    have hz : vs.length ≤ sizeLine := Nat.le_trans (by omega) thousand
    refine ⟨hz, fun p hp => q (.ref p) _ (upd G1 p (.tup vs)) (e1.trans (Ext.laid e1.gh hp)) ⟨p, vs, rfl, .of upd_same, hz, i1.same (same_upd (e1.gh.free hp) _)⟩⟩
  · exact q.elim
theorem pd_lst (h : PA X es (tAs X B G₀ fr)) : PE X (.List es pos) (tE X B G₀ fun δ => fr δ >>= lstR) := by
  refine pd_of (pe_lst h) fun σ H G δ Q R hw => ?_
  refine ⟨G, δ, R, ?_⟩
  unfold W at hw
  rw [wp_bind] at hw
  refine Rs.wp.mono hw (fun _ x => x) fun ds q vs H1 G1 e1 i1 => ?_
  unfold lstR at q
  split at q
  · rename_i hl
    have hl' := i1.length
    have hz : vs.length ≤ sizeLine := Nat.le_trans (by omega) thousand
    refine ⟨hz, fun p hp => q (.ref p) _ (upd G1 p (.lst vs)) (e1.trans (Ext.laid e1.gh hp)) ⟨p, vs, rfl, .of upd_same, hz, i1.same (same_upd (e1.gh.free hp) _)⟩⟩
  · exact q.elim
noncomputable def chr1 (c : Nat) : Str := ⟨#[c]⟩
noncomputable def idxR : D → D → Rs D
  | .str z, .int i => match atI z.cps.toList i with | some c => .ok (.str (chr1 c)) | none => .bad
  | .tup ds, .int i => match atI ds i with | some d => .ok d | none => .bad
  | .lst ds, .int i => match atI ds i with | some d => .ok d | none => .bad
  | _, _ => .bad
theorem IsL.atI {K : PySem.W.Frag} {G : Hp} {ds : List D} {xs : List V} {i : Int} {d : D} (h : IsL K G ds xs) (e : atI ds i = some d) : ∃ x, L2.atI xs i = some x ∧ Is K G d x := by
  unfold L2.atI at e ⊢
  rw [h.length]
  cases q : ixN ds.length i with
  | none => rw [q] at e; cases e
  | some j =>
    rw [q] at e
    exact h.get e
theorem strOk_at {z : Str} {i : Int} {c : Nat} (h : PyData.strOk z = true) (e : atI z.cps.toList i = some c) : PyData.strOk (chr1 c) = true := by
  unfold L2.atI at e
  cases q : ixN z.cps.toList.length i with
  | none => rw [q] at e; cases e
  | some j =>
    rw [q] at e
    have e' : z.cps.toList[j]? = some c := e
    have hm : c ∈ z.cps := by
      have := List.mem_of_getElem? e'
      simpa using this
    unfold PyData.strOk at h ⊢
    have := Array.all_eq_true_iff_forall_mem.mp h c hm
    simpa [chr1] using this
theorem pd_ix (ha : PE X a (tE X B G₀ fa)) (hb : PE X b (tE X B G₀ fb)) (hs : PlainIx b := by intro _ _; rfl) : PE X (.Subscript a b pos) (tE X B G₀ fun δ => fa δ >>= fun x => fb δ >>= fun y => idxR x y) := by
  intro pins s σ H Q I ⟨G, δ, R, hw⟩
  refine Subscript_ (bindE ha I R hw fun d1 u1 v1 s1 H1 G1 I1 R1 r1 e1 i1 hw1 => bindE hb I1 R1 hw1 fun d2 u2 v2 s2 H2 G2 I2 R2 r2 e2 i2 hw2 => ?_)
  have hw2 := wmono hw2 (e1.trans e2)
  have i1 := i1.same e2.gg
  refine ix_seq a b pins s2 σ H2 v1 v2 u1 u2 Q I2 r1 r2 ?_ (hs _ _)
  cases d1 with
  | str z =>
    cases d2 with
    | int i =>
      obtain ⟨rfl, h2, h3⟩ := i1
      cases q : atI z.cps.toList i with
      | none =>
        have : W X Q σ H2 G2 (match atI z.cps.toList i with | some c => .ok (.str (chr1 c)) | none => .bad) := hw2
        rw [q] at this; exact this.elim
      | some c =>
        have w : W X Q σ H2 G2 (match atI z.cps.toList i with | some c => .ok (.str (chr1 c)) | none => .bad) := hw2
        rw [q] at w
        exact .inr (.inr ⟨z, i, c, rfl, i2, h2, q, wOk w R2.ext.gh ⟨rfl, (by show 1 ≤ sizeLine; decide), strOk_at h3 q⟩⟩)
    | _ => exact hw2.elim
  | tup ds =>
    cases d2 with
    | int i =>
      obtain ⟨p, xs, rfl, h1, h2, h3⟩ := i1
      cases q : atI ds i with
      | none =>
        have : W X Q σ H2 G2 (match atI ds i with | some d => .ok d | none => .bad) := hw2
        rw [q] at this; exact this.elim
      | some d =>
        have w : W X Q σ H2 G2 (match atI ds i with | some d => .ok d | none => .bad) := hw2
        rw [q] at w
        obtain ⟨x, e, hx⟩ := h3.atI q
        exact .inr (.inl ⟨p, xs, i, x, rfl, i2, SqT.same R2.ext.gh h1, e, wOk w R2.ext.gh hx⟩)
    | _ => exact hw2.elim
  | lst ds =>
    cases d2 with
    | int i =>
      obtain ⟨p, xs, rfl, h1, h2, h3⟩ := i1
      cases q : atI ds i with
      | none =>
        have : W X Q σ H2 G2 (match atI ds i with | some d => .ok d | none => .bad) := hw2
        rw [q] at this; exact this.elim
      | some d =>
        have w : W X Q σ H2 G2 (match atI ds i with | some d => .ok d | none => .bad) := hw2
        rw [q] at w
        obtain ⟨x, e, hx⟩ := h3.atI q
        exact .inl ⟨p, xs, i, x, rfl, i2, R2.ext.gh.seq h1, e, wOk w R2.ext.gh hx⟩
    | _ => exact hw2.elim
  | _ => cases d2 <;> exact hw2.elim
noncomputable def CallD (X : Cx) (f : Value) (g : List D → Rs D) : Prop :=
  ∀ (pins : List (Addr × Obj)) (s : Shared) (σ : St) (H G : Hp) (Q : VK) (ds : List D) (vs : List V) (us : List Value), Inv X pins σ H s → Same G H → Vals vs us → IsL X.K G ds vs → W X Q σ H G (g ds) →
    wpAny (model X.prog X.w) X.A (call f us) (EP X pins σ Q) X.xe s
variable {x : Str} {p : Pos} {id T : String} {g : List D → Rs D}
theorem pd_callB (hc : CallD X (.builtin id) g) (hm : X.mg x = none) (hv : bootBuiltins x = some (.builtin id)) (ha : PA X (e :: es) (tAs X B G₀ fr)) (hg : Gl X x := by rfl) (hn : x ≠ "__name__" := by decide) (hdb : (x == ("__debug__" : Str)) = false := by decide)
    (he : starEach (e :: es) X.env = (false, eval e X.env) :: starEach es X.env := by rfl) (hpl : (backTo pos (starEach es X.env)).any (·.1) = false := by rfl) : PE X (.Call (.Name x p) (e :: es) [] pos) (tE X B G₀ fun δ => fr δ >>= g) := by
  intro pins s σ H Q I ⟨G, δ, R, hw⟩
  refine wpAny_Call_Name_kw (ld_blt I hg hm hv ?_ hn hdb)
  exact PyProof.Rows.callWith_builtin1 (bindA ha I R hw fun ds us vs s1 H1 G1 I1 R1 r1 e1 i1 hw1 => hc pins s1 σ H1 G1 Q ds vs us I1 R1.ext.gh r1 i1 (wmono hw1 e1)) he hpl
theorem pd_callTy (hc : CallD X (.type T) g) (hm : X.mg x = none) (hv : bootBuiltins x = some (.type T)) (ha : PA X (e :: es) (tAs X B G₀ fr)) (hg : Gl X x := by rfl) (hn : x ≠ "__name__" := by decide) (hdb : (x == ("__debug__" : Str)) = false := by decide)
    (he : starEach (e :: es) X.env = (false, eval e X.env) :: starEach es X.env := by rfl) (hpl : (backTo pos (starEach es X.env)).any (·.1) = false := by rfl) : PE X (.Call (.Name x p) (e :: es) [] pos) (tE X B G₀ fun δ => fr δ >>= g) := by
  intro pins s σ H Q I ⟨G, δ, R, hw⟩
  refine wpAny_Call_Name_kw (ld_blt I hg hm hv ?_ hn hdb)
  exact PyProof.Rows.callWith_type1 (bindA ha I R hw fun ds us vs s1 H1 G1 I1 R1 r1 e1 i1 hw1 => hc pins s1 σ H1 G1 Q ds vs us I1 R1.ext.gh r1 i1 (wmono hw1 e1)) he hpl
theorem callD_of {f : Value} {r : List V → Hp → VK → Prop} (hc : CallR X f r) (h : ∀ σ H G Q ds vs, Same G H → IsL X.K G ds vs → W X Q σ H G (g ds) → r vs H Q) : CallD X f g :=
  fun pins s σ H G Q ds vs us I gh r i hw => hc pins s σ H vs us Q I r (h σ H G Q ds vs gh i hw)
noncomputable def lenR : List D → Rs D
  | [.str z] => .ok (.int z.length)
  | [.tup ds] => .ok (.int ds.length)
  | [.lst ds] => .ok (.int ds.length)
  | _ => .bad
theorem isL1 {K : PySem.W.Frag} {G : Hp} {d : D} {vs : List V} (h : IsL K G [d] vs) : ∃ v, vs = [v] ∧ Is K G d v := by
  obtain ⟨v, r, rfl, h1, h2⟩ := h
  rw [show r = [] from h2]
  exact ⟨v, rfl, h1⟩
theorem cd_len : CallD X (.builtin "len") lenR := callD_of call_len fun σ H G Q ds vs gh i hw => by
  cases ds with
  | nil => exact hw.elim
  | cons d r =>
    cases r with
    | cons _ _ => cases d <;> exact hw.elim
    | nil =>
      cases d with
      | str z =>
        obtain ⟨v, rfl, h⟩ := isL1 i
        obtain ⟨rfl, h2, _⟩ := h
        exact ⟨_, _, rfl, ⟨h2, rfl⟩, wOk hw gh rfl⟩
      | tup ds =>
        obtain ⟨v, rfl, h⟩ := isL1 i
        obtain ⟨a, xs, rfl, h1, h2, h3⟩ := h
        exact ⟨_, _, rfl, .inr ⟨xs, SqT.same gh h1, rfl⟩, by rw [h3.length]; exact wOk hw gh rfl⟩
      | lst ds =>
        obtain ⟨v, rfl, h⟩ := isL1 i
        obtain ⟨a, xs, rfl, h1, h2, h3⟩ := h
        exact ⟨_, _, rfl, .inl ⟨xs, gh.seq h1, rfl⟩, by rw [h3.length]; exact wOk hw gh rfl⟩
      | _ => exact hw.elim
noncomputable def ordR : List D → Rs D
  | [.str z] => if z.length = 1 then .ok (.int (z.cps.getD 0 0 : Nat)) else .bad
  | _ => .bad
theorem cd_ord : CallD X (.builtin "ord") ordR := callD_of call_ord fun σ H G Q ds vs gh i hw => by
  cases ds with
  | nil => exact hw.elim
  | cons d r =>
    cases r with
    | cons _ _ => cases d <;> exact hw.elim
    | nil =>
      cases d with
      | str z =>
        obtain ⟨v, rfl, h⟩ := isL1 i
        obtain ⟨rfl, h2, _⟩ := h
        obtain ⟨hz, hw⟩ := wIf (r := .ok (.int (z.cps.getD 0 0 : Nat))) (c := z.length = 1) hw
        exact ⟨_, rfl, hz, wOk hw gh rfl⟩
      | _ => exact hw.elim
noncomputable def maxR : List D → Rs D
  | [.int i, .int j] => .ok (.int (if j > i then j else i))
  | _ => .bad
noncomputable def tyN : D → String
  | .non => "NoneType"
  | .bl _ => "bool"
  | .int _ => "int"
  | .str _ => "str"
  | .tup _ => "tuple"
  | .lst _ => "list"
  | .dct _ _ => "dict"
  | .dtt _ _ => "dict"
  | .exn _ => ""
noncomputable def isiN (t T : String) : Bool := t == T || (t == "bool" && T == "int")
noncomputable def noX : D → Bool
  | .exn _ => false
  | _ => true
noncomputable def isiR (T : String) (d : D) : Rs D := if noX d = true then .ok (.bl (isiN (tyN d) T)) else .bad
noncomputable def IsiOk (K : PySem.W.Frag) (T : String) : Prop := ∀ d : D, noX d = true → PySem.W.kitOne K (.type (tyN d)) (.type T) = some (isiN (tyN d) T)
theorem isi_any {X : Cx} {A : Around} {E : Value → Shared → Prop} {pins : List (Addr × Obj)} {s : Shared} {σ : St} {H : Hp} {d : D} {v : V} {u : Value} {T : String} {Q : Value → Shared → Prop} (I : Inv X pins σ H s) (r : RelV v u) (i : Is X.K H d v) (hT : IsiOk X.K T) (hno : noX d = true)
    (h : ∀ tk, Q (.bool (isiN (tyN d) T)) { s with toks := tk }) : wpAny (model X.prog X.w) A (call (.builtin "isinstance") [u, .type T]) Q E s := by
  have e := hT d hno
  cases d with
  | exn c => cases hno
  | non => cases (show v = .non from i); cases (show u = .none from r); exact PySem.W.kia_one PySem.W.kitx_none I.kIn True.intro e (fun z => nomatch z) h
  | bl b => cases (show v = .bl b from i); cases (show u = .bool b from r); exact PySem.W.kia_one PySem.W.kitx_bool I.kIn True.intro e (fun z => nomatch z) h
  | int b => cases (show v = .int b from i); obtain ⟨t, rfl⟩ := (show ∃ t, u = .int b t from r); exact PySem.W.kia_one PySem.W.kitx_int I.kIn True.intro e (fun z => nomatch z) h
  | str b => obtain ⟨rfl, _⟩ := i; obtain ⟨t, rfl⟩ := (show ∃ t, u = .str b t from r); exact PySem.W.kia_one PySem.W.kitx_str I.kIn True.intro e (fun z => nomatch z) h
  | tup ds =>
    obtain ⟨a, xs, rfl, h1, _⟩ := i
    cases (show u = .ref a from r)
    obtain ⟨its, _, ⟨o, e1, e2, _⟩, _⟩ := I.tuple h1
    exact PySem.W.kia_one PySem.W.kitx_tuple I.kIn ⟨o, e1, e2⟩ e (fun z => nomatch z) h
  | lst ds =>
    obtain ⟨a, xs, rfl, h1, _⟩ := i
    cases (show u = .ref a from r)
    obtain ⟨its, _, ⟨o, _, e1, e2, _⟩, _⟩ := I.list h1
    exact PySem.W.kia_one PySem.W.kitx_list I.kIn ⟨o, e1, e2⟩ e (fun z => nomatch z) h
  | dct ks ds =>
    obtain ⟨a, xs, rfl, h1, _⟩ := i
    cases (show u = .ref a from r)
    obtain ⟨_, _, vs, _, o, es, ep, e1, e2, _⟩ := I.hok a _ h1
    exact PySem.W.kia_one PySem.W.kitx_dict I.kIn ⟨o, e1, e2.1⟩ e (fun z => nomatch z) h
  | dtt ks ds =>
    obtain ⟨a, xs, rfl, h1, _⟩ := i
    cases (show u = .ref a from r)
    obtain ⟨_, _, vs, _, o, es, ep, e1, e2, _⟩ := I.hok a _ h1
    exact PySem.W.kia_one PySem.W.kitx_dict I.kIn ⟨o, e1, e2.1⟩ e (fun z => nomatch z) h
theorem cr_isi (hT : IsiOk X.K T) : CallR X (.builtin "isinstance") (fun xs H Q => ∃ x d, xs = [x, .ty T] ∧ Is X.K H d x ∧ noX d = true ∧ Q (.bl (isiN (tyN d) T)) H) := by
  intro pins s σ H xs us Q I r h
  obtain ⟨x, d, rfl, i, hno, q⟩ := h
  obtain ⟨u, w, rfl, r1, r2⟩ := vals2 r
  cases (show w = .type T from r2)
  exact isi_any I r1 i hT hno fun tk => ⟨.bl _, H, I.tok tk, rfl, q⟩
theorem pd_isi {y : Str} {p2 : Pos} (hT : IsiOk X.K T) (hm : X.mg "isinstance" = none) (hm2 : X.mg y = none) (hv2 : bootBuiltins y = some (.type T)) (ha : PE X e (tE X B G₀ fe)) (hg : Gl X "isinstance" := by rfl) (hg2 : Gl X y := by rfl)
    (hn2 : y ≠ "__name__" := by decide) (hd2 : (y == ("__debug__" : Str)) = false := by decide) (hs1 : starEach [e, .Name y p2] X.env = (false, eval e X.env) :: starEach [.Name y p2] X.env := by rfl) :
    PE X (.Call (.Name "isinstance" p) [e, .Name y p2] [] pos) (tE X B G₀ fun δ => fe δ >>= fun d => isiR T d) := by
  refine pd_of (pe_callB (cr_isi hT) hg hm PyProof.Rows.boot_isinstance (pa_cons ha (pa_cons (pe_bltn (v := .ty T) hg2 hm2 hv2 rfl hn2 hd2) pa_nil) hs1) (by decide) (by decide) hs1) fun σ H G δ Q R hw => ?_
  unfold W at hw
  rw [wp_bind] at hw
  refine ⟨G, δ, R, Rs.wp.mono hw (fun _ x => x) fun d q v H1 G1 e1 i1 => ?_⟩
  unfold isiR at q
  split at q
  · rename_i hno
    exact ⟨v, d, rfl, i1.same e1.gh, hno, q _ H1 G1 e1 rfl⟩
  · exact q.elim
end
theorem isi_int (K : PySem.W.Frag) : IsiOk K "int" := by intro d hd; cases d <;> first | rfl | cases hd
theorem isi_bool (K : PySem.W.Frag) : IsiOk K "bool" := by intro d hd; cases d <;> first | rfl | cases hd
theorem isi_str (K : PySem.W.Frag) : IsiOk K "str" := by intro d hd; cases d <;> first | rfl | cases hd
theorem isi_tuple (K : PySem.W.Frag) : IsiOk K "tuple" := by intro d hd; cases d <;> first | rfl | cases hd
theorem isi_list (K : PySem.W.Frag) : IsiOk K "list" := by intro d hd; cases d <;> first | rfl | cases hd
end M

set_option Elab.async false
set_option linter.all false
set_option maxRecDepth 100000
set_option maxHeartbeats 4000000
namespace M
open PySem PySem.Spec PyProof.Rows L2
set_option autoImplicit false

noncomputable def boolsOf : List D → Option (List Bool)
  | [] => some []
  | .bl b :: r => (boolsOf r).map (b :: ·)
  | _ :: _ => none
noncomputable def intsOf : List D → Option (List Int)
  | [] => some []
  | .int b :: r => (intsOf r).map (b :: ·)
  | _ :: _ => none
noncomputable def strsOf : List D → Option (List Str)
  | [] => some []
  | .str b :: r => (strsOf r).map (b :: ·)
  | _ :: _ => none
@[simp] theorem boolsOf_map {α : Type} (f : α → Bool) (l : List α) : boolsOf (l.map fun x => D.bl (f x)) = some (l.map f) := by
  induction l with
  | nil => rfl
  | cons a r ih => simp [boolsOf, ih]
@[simp] theorem intsOf_map {α : Type} (f : α → Int) (l : List α) : intsOf (l.map fun x => D.int (f x)) = some (l.map f) := by
  induction l with
  | nil => rfl
  | cons a r ih => simp [intsOf, ih]
@[simp] theorem strsOf_map {α : Type} (f : α → Str) (l : List α) : strsOf (l.map fun x => D.str (f x)) = some (l.map f) := by
  induction l with
  | nil => rfl
  | cons a r ih => simp [strsOf, ih]
noncomputable def allR : List D → Rs D
  | [.lst ds] => match boolsOf ds with
    | some bs => .ok (.bl (bs.all id))
    | none => .bad
  | _ => .bad
noncomputable def inSum (n : Int) : Bool := decide (-(2 ^ 40) ≤ n ∧ n ≤ 2 ^ 40)
noncomputable def sumR : List D → Rs D
  | [.lst ds] => match intsOf ds with
    | some ns => if (ns.all inSum && decide (ns.length ≤ 1000000)) = true then .ok (.int ns.sum) else .bad
    | none => .bad
  | _ => .bad
section
variable {K : PySem.W.Frag} {G : Hp}
theorem bools_get : ∀ {ds : List D} {bs : List Bool} {xs : List V} {us : List Value}, boolsOf ds = some bs → IsL K G ds xs → Vals xs us → ∀ (i : Nat) (u : Value), us[i]? = some u → u = .bool (bs.getD i false) ∧ us.length = bs.length
  | [], bs, xs, us, e, h, r => by
    rw [show xs = [] from h] at r
    cases r
    intro i u q
    simp at q
  | d :: ds, bs, xs, us, e, h, r => by
    obtain ⟨x, xr, rfl, h1, h2⟩ := h
    cases r with
    | @cons _ u0 _ ur r1 r2 =>
      cases d with
      | bl b =>
        unfold boolsOf at e
        cases q : boolsOf ds with
        | none => rw [q] at e; cases e
        | some br =>
          rw [q] at e
          cases e
          cases (show x = .bl b from h1)
          cases (show u0 = .bool b from r1)
          have hl : ur.length = br.length := by
            cases ur with
            | nil =>
              have := r2.length
              have h3 := h2.length
              have : ds = [] := by
                cases ds with
                | nil => rfl
                | cons _ _ => simp at h3; simp_all
              subst this
              cases q
              rfl
            | cons z zs => exact (bools_get q h2 r2 0 z rfl).2
          intro i u e
          cases i with
          | zero => simp at e; subst e; exact ⟨rfl, by simp [hl]⟩
          | succ i =>
            have := bools_get q h2 r2 i u (by simpa using e)
            exact ⟨by simpa using this.1, by simp [hl]⟩
      | _ => exact absurd e (by simp [boolsOf])
theorem strs_get : ∀ {ds : List D} {bs : List Str} {xs : List V} {us : List Value}, strsOf ds = some bs → IsL K G ds xs → Vals xs us → StrsAre us bs ∧ ∀ y ∈ bs, PyData.strOk y = true
  | [], bs, xs, us, e, h, r => by
    rw [show xs = [] from h] at r
    cases r
    cases e
    exact ⟨.nil, by simp⟩
  | d :: ds, bs, xs, us, e, h, r => by
    obtain ⟨x, xr, rfl, h1, h2⟩ := h
    cases r with
    | @cons _ u0 _ ur r1 r2 =>
      cases d with
      | str b =>
        unfold strsOf at e
        cases q : strsOf ds with
        | none => rw [q] at e; cases e
        | some br =>
          rw [q] at e
          cases e
          obtain ⟨rfl, _, ok⟩ := h1
          obtain ⟨t, rfl⟩ := (show ∃ t, u0 = .str b t from r1)
          obtain ⟨z1, z2⟩ := strs_get q h2 r2
          exact ⟨.cons b t z1, by simpa using ⟨ok, z2⟩⟩
      | _ => exact absurd e (by simp [strsOf])
theorem range_all (bs : List Bool) : (List.range bs.length).all (fun i => bs.getD i false) = bs.all id := by
  induction bs with
  | nil => rfl
  | cons b r ih =>
    rw [List.length_cons, List.range_succ_eq_map, List.all_cons, List.all_map]
    have e : (List.range r.length).all ((fun i => (b :: r).getD i false) ∘ Nat.succ) = r.all id := by simpa [Function.comp_def] using ih
    rw [e]; rfl
theorem IntsAre.get {us : List Value} {ns : List Int} (h : IntsAre us ns) : ∀ (i : Nat) (u : Value), us[i]? = some u → ∃ t, u = .int (ns.getD i 0) t := by
  induction h with
  | nil => intro i u e; simp at e
  | cons n t r ih =>
    intro i u e
    cases i with
    | zero => simp at e; subst e; exact ⟨t, rfl⟩
    | succ i => simpa using ih i u (by simpa using e)
end
section
variable {X : Cx} {B G₀ : Hp}
theorem cd_all (hc : X.calm = true) : CallD X (.builtin "all") allR := by
  intro pins s σ H G Q ds vs us I gh r i hw
  unfold allR at hw
  split at hw
  · rename_i ds
    split at hw
    · rename_i bs hb
      obtain ⟨v, rfl, h⟩ := isL1 i
      obtain ⟨u, rfl, ru⟩ := vals1 r
      obtain ⟨a, xs, rfl, h1, h2, h3⟩ := h
      cases (show u = .ref a from ru)
      obtain ⟨its, rv, pl, hz⟩ := I.list (gh.seq h1)
      have hget := bools_get hb h3 rv
      have hlen : its.length = bs.length := by
        cases its with
        | nil =>
          have e1 := rv.length
          have e2 := h3.length
          have : ds = [] := by cases ds with
            | nil => rfl
            | cons _ _ => simp at e2; simp_all
          subst this
          cases hb
          rfl
        | cons z zs => exact (hget 0 z rfl).2
      have hne : a ≠ s.heap.objs.size := Nat.ne_of_lt (by obtain ⟨o, e, _⟩ := pl.isList; exact Heap.lt_size e)
      refine call_all_walk (wpAny_pyIter_list pl.isList ?_)
      refine ⟨s.heap.objs.size, [s.heap.objs.size, a], [s.heap.objs.size], its.toArray.size, fun i v => its.toArray[i]? = some v, fun i h => h.IsListIter s.heap.objs.size a i ∧ h.IsList a its.toArray, fun i => bs.getD i false, rfl,
        Walks.list (show X.A.in1.handled = none from I.ok.hd hc) _ a hne its.toArray, ⟨⟨_, Heap.get?_push_size _ rfl, rfl, rfl⟩, pl.isList.at fun o e => Heap.get?_push_of_some _ e⟩, ?_, ?_⟩
      · intro i v s' Q' E' hP hQ
        have hP' : its[i]? = some v := by simpa using hP
        rw [(hget i v hP').1]
        exact wpAny_truthy_bool hQ
      · intro h' tk hk
        rw [List.size_toArray, hlen, range_all]
        refine ⟨.bl _, H, I.kept (t' := tk) fun b o e => hk b o (fun hb => ?_) (Heap.get?_push_of_some _ e), rfl, wOk hw gh rfl⟩
        rw [List.mem_singleton.mp hb] at e
        exact absurd (Heap.lt_size e) (Nat.lt_irrefl _)
    · exact hw.elim
  · exact hw.elim
noncomputable def listR : List D → Rs D
  | [.lst ds] => .ok (.lst ds)
  | [.tup ds] => .ok (.lst ds)
  | _ => .bad
end
end M

set_option Elab.async false
set_option linter.all false
set_option maxRecDepth 100000
set_option maxHeartbeats 4000000
namespace M
open PySem PySem.Spec PyProof.Rows L2
set_option autoImplicit false

inductive Out where
  | nx (δ : DS) | rt (d : D) | bk (δ : DS) | ct (δ : DS) | exc (c : Str) (δ : DS) | bad
noncomputable def Rs.out {α : Type} (r : Rs α) (δ : DS) (k : α → Out) : Out := match r with
  | .ok a => k a
  | .exc c => .exc c δ
  | .bad => .bad
@[simp] theorem ok_out {α : Type} (a : α) (δ : DS) (k : α → Out) : (Rs.ok a).out δ k = k a := nodef rfl
@[simp] theorem bad_out {α : Type} (δ : DS) (k : α → Out) : (Rs.bad : Rs α).out δ k = .bad := nodef rfl
noncomputable def XS (X : Cx) (B G₀ : Hp) (c : Str) (δ : DS) : Prop := ∀ (pins : List (Addr × Obj)) (σ : St) (s' : Shared) (H G : Hp) (ev : Value), Rel X B G₀ σ H G δ → Inv X pins σ H s' → ∀ s'' : Shared, IsX X c H G s' ev s'' → X.xe ev s''
noncomputable def WS (X : Cx) (B G₀ : Hp) (D : Ends) (o : Out) : Prop := match o with
  | .nx δ => ∀ σ H G, Rel X B G₀ σ H G δ → D.nx σ H
  | .rt d => ∀ v H G, Ext B G₀ H G → Is X.K G d v → D.rt v H
  | .bk δ => ∀ σ H G, Rel X B G₀ σ H G δ → D.bk σ H
  | .ct δ => ∀ σ H G, Rel X B G₀ σ H G δ → D.ct σ H
  | .exc c δ => XS X B G₀ c δ
  | .bad => False
noncomputable def tS (X : Cx) (B G₀ : Hp) (F : DS → Out) : TS := fun D σ H => ∃ G δ, Rel X B G₀ σ H G δ ∧ WS X B G₀ D (F δ)

section
variable {X : Cx} {B G₀ : Hp} {σ : St} {H G : Hp} {δ : DS} {D' : Ends}
theorem out_W {r : Rs D} {k : D → Out} {Q : VK} (R : Rel X B G₀ σ H G δ) (hw : WS X B G₀ D' (r.out δ k)) (hk : ∀ d, r = .ok d → WS X B G₀ D' (k d) → ∀ v H' G', Ext H G H' G' → Is X.K G' d v → Q v H') : W X Q σ H G r := by
  cases r with
  | ok d => exact hk d rfl hw
  | exc c => exact fun pins s' H' G' ev e I x => hw pins σ s' H' G' ev (R.mono e) I x
  | bad => exact hw.elim
theorem out_WT {r : Rs Bool} {k : Bool → Out} {Q : Bool → Hp → Prop} (R : Rel X B G₀ σ H G δ) (hw : WS X B G₀ D' (r.out δ k)) (hk : ∀ d, r = .ok d → WS X B G₀ D' (k d) → ∀ H' G', Ext H G H' G' → Q d H') : WT X Q σ H G r := by
  cases r with
  | ok d => exact hk d rfl hw
  | exc c => exact fun pins s' H' G' ev e I x => hw pins σ s' H' G' ev (R.mono e) I x
  | bad => exact hw.elim
theorem ps_imp {st : Stmt} {t t' : TS} (h : PS X st t) (k : ∀ D σ H, t' D σ H → t D σ H) : PS X st t' := fun pins s σ H D I hw => h pins s σ H D I (k D σ H hw)
theorem pss_imp {st : List Stmt} {t t' : TS} (h : PSs X st t) (k : ∀ D σ H, t' D σ H → t D σ H) : PSs X st t' := fun pins s σ H D I hw => h pins s σ H D I (k D σ H hw)

noncomputable def seqO (F1 F2 : DS → Out) : DS → Out := fun δ => match F1 δ with
  | .nx δ' => F2 δ'
  | .rt d => .rt d
  | .bk δ' => .bk δ'
  | .ct δ' => .ct δ'
  | .exc c δ' => .exc c δ'
  | .bad => .bad
variable {st : Stmt} {rest sts sts' : List Stmt} {F F1 F2 : DS → Out} {e a b c : Expr} {fe fa fb : DS → Rs D} {gc : DS → Rs Bool} {pos : Pos}
theorem pds_nil : PSs X [] (tS X B G₀ Out.nx) := pss_imp pss_nil fun D σ H ⟨G, δ, R, hw⟩ => hw σ H G R
theorem pds_cons (h1 : PS X st (tS X B G₀ F1)) (h2 : PSs X rest (tS X B G₀ F2)) : PSs X (st :: rest) (tS X B G₀ (seqO F1 F2)) := by
  refine pss_imp (pss_cons h1 h2) fun D σ H ⟨G, δ, R, hw⟩ => ⟨G, δ, R, ?_⟩
  unfold seqO at hw
  cases q : F1 δ with
  | nx δ' => rw [q] at hw; exact fun σ' H' G' R' => ⟨G', δ', R', hw⟩
  | rt d => rw [q] at hw; exact hw
  | bk δ' => rw [q] at hw; exact hw
  | ct δ' => rw [q] at hw; exact hw
  | exc c δ' => rw [q] at hw; exact hw
  | bad => rw [q] at hw; exact hw
theorem pds_one (h1 : PS X st (tS X B G₀ F1)) : PSs X [st] (tS X B G₀ F1) := pss_one h1
theorem pds_ret (he : PE X e (tE X B G₀ fe)) : PS X (.Return (some e) pos) (tS X B G₀ fun δ => (fe δ).out δ fun d => .rt d) :=
  ps_imp (ps_ret he) fun D σ H ⟨G, δ, R, hw⟩ => ⟨G, δ, R, out_W R hw fun d _ hk v H' G' e i => hk v H' G' (R.ext.trans e) i⟩
theorem pds_if (hc : PT X c (tT X B G₀ gc)) (ha : PSs X sts (tS X B G₀ F1)) (hb : PSs X sts' (tS X B G₀ F2)) : PS X (.If c sts sts' pos) (tS X B G₀ fun δ => (gc δ).out δ fun k => if k = true then F1 δ else F2 δ) := by
  refine ps_imp (ps_if hc ha hb) fun D σ H ⟨G, δ, R, hw⟩ => ⟨G, δ, R, out_WT R hw fun k _ hk H' G' e => ?_⟩
  cases k with
  | true => exact ⟨G', δ, R.mono e, hk⟩
  | false => exact ⟨G', δ, R.mono e, hk⟩
theorem pds_set (i : Nat) {x : Str} {pos' : Pos} (hN : X.N.Nodup) (he : PE X e (tE X B G₀ fe)) (hi : X.N[i]? = some x := by rfl) (hx : Loc X.env.scope x := by first | exact Or.inl rfl | exact Or.inr rfl) (hs : swapsWith e (some (.Name x pos')) pos.line X.env = pure false := by rfl)
    (hf : X.fn x = true ∨ X.env.scope.names.lookup x = some .local := by first | exact .inl rfl | exact .inr rfl | assumption) :
    PS X (.Assign [.Name x pos'] e pos) (tS X B G₀ fun δ => (fe δ).out δ fun d => .nx (δ.set i (some (.v d)))) :=
  ps_imp (ps_set hN hi hx he hs hf) fun D σ H ⟨G, δ, R, hw⟩ => ⟨G, δ, R, out_W R hw fun d _ hk v H' G' e i' => hk _ H' G' ((R.mono e).set i i')⟩
noncomputable def getV (δ : DS) (i : Nat) : Rs D := match δ[i]? with
  | some (some (.v d)) => .ok d
  | _ => .bad
theorem Ext.rebase {H1 G1 : Hp} (e : Ext B G₀ H1 G1) (f : Ext B G1 H G) : Ext B G₀ H G :=
  ⟨f.hh, e.gg.trans f.gg, f.gh, fun b o q => by
    rcases f.new b o q with z | z
    · exact e.new b o z
    · exact .inr z⟩
theorem Rel.up (R : Rel X B G₀ σ H G δ) : Rel X B G σ H G δ := ⟨⟨R.ext.hh, Same.refl _, R.ext.gh, fun _ _ q => .inl q⟩, R.len, R.val, R.own, R.apart⟩
theorem Rel.down {H1 G1 : Hp} (e : Ext B G₀ H1 G1) (R : Rel X B G1 σ H G δ) : Rel X B G₀ σ H G δ := ⟨e.rebase R.ext, R.len, R.val, R.own, R.apart⟩
theorem XS.up {c : Str} {H1 G1 : Hp} (e : Ext B G₀ H1 G1) (h : XS X B G₀ c δ) : XS X B G1 c δ := fun pins σ s' H G ev R I x => h pins σ s' H G ev (R.down e) I x

noncomputable def whileO (gc : DS → Rs Bool) (F : DS → Out) : Nat → DS → Out
  | 0, _ => .bad
  | n + 1, δ => (gc δ).out δ fun k => if k = true then (match F δ with
      | .nx δ' => whileO gc F n δ'
      | .ct δ' => whileO gc F n δ'
      | .bk δ' => .nx δ'
      | .rt d => .rt d
      | .exc c δ' => .exc c δ'
      | .bad => .bad) else .nx δ
noncomputable def ItD (X : Cx) (J : It) (ds : List D) (G1 : Hp) : Prop := ∀ H G, Same G1 G → Same G H →
  (∀ (i : Nat) (d : D), ds[i]? = some d → J.go i H ∧ ∀ x H2, J.yld i H x H2 → ∃ G2, Ext H G H2 G2 ∧ Is X.K G2 d x) ∧ J.stop ds.length H
noncomputable def tI (X : Cx) (B G₀ : Hp) (f : DS → Rs (List D)) : TI := fun σ H R => ∃ G δ, Rel X B G₀ σ H G δ ∧ (f δ).wp (fun c => Xo X c σ H G) fun ds => ∀ J H' G', Ext H G H' G' → ItD X J ds G' → R J H'
noncomputable def forO (tg : D → DS → Option DS) (F : DS → Out) : List D → DS → Out
  | [], δ => .nx δ
  | d :: ds, δ => match tg d δ with
    | none => .bad
    | some δ1 => match F δ1 with
      | .nx δ' => forO tg F ds δ'
      | .ct δ' => forO tg F ds δ'
      | .bk δ' => .nx δ'
      | .rt d => .rt d
      | .exc c δ' => .exc c δ'
      | .bad => .bad
noncomputable def TgD (X : Cx) (B : Hp) (g : TG) (tg : D → DS → Option DS) : Prop := ∀ (G₀ : Hp) (σ : St) (H G : Hp) (δ δ1 : DS) (d : D) (x : V) (Q : St → Hp → Prop), Rel X B G₀ σ H G δ → Is X.K G d x → tg d δ = some δ1 → (∀ σ' H' G', Rel X B G₀ σ' H' G' δ1 → Q σ' H') → g x σ H Q
theorem tg_name (i : Nat) : TgD X B (gName i) (fun d δ => some (δ.set i (some (.v d)))) := fun G₀ σ H G δ δ1 d x Q R hi e hQ => by
  cases e
  exact hQ _ H G (R.set i hi)
theorem pds_for {tgt iter : Expr} {g : TG} {tg : D → DS → Option DS} {f : DS → Rs (List D)} (hp : PassesOwn (model X.prog X.w) X.A X.env X.xe) (hc : X.calm = true) (hi : PI X tgt iter (tI X B G₀ f)) (hg : PG X tgt g) (ht : TgD X B g tg) (hb : ∀ G₀, PSs X sts (tS X B G₀ F))
    (hs : ∀ x, foldedSetIterable iter X.env x = pure x := by intro _; rfl) : PS X (.For tgt iter sts [] pos) (tS X B G₀ fun δ => (f δ).out δ fun ds => forO tg F ds δ) := by
  intro pins s σ H D' I h
  obtain ⟨G, δ, R, hw⟩ := h
  have hw : WS X B G₀ D' ((f δ).out δ fun ds => forO tg F ds δ) := hw
  have hbody : PSs X sts fun D σ H => ∃ G₀, tS X B G₀ F D σ H := fun pins s σ H D I ⟨G₀, h⟩ => hb G₀ pins s σ H D I h
  refine ps_for hp hc hi hg hbody hs pins s σ H D' I ⟨G, δ, R, ?_⟩
  cases q : f δ with
  | exc c => rw [q] at hw; exact fun pins s' H' G' ev e I x => hw pins σ s' H' G' ev (R.mono e) I x
  | bad => rw [q] at hw; exact hw.elim
  | ok ds =>
    rw [q] at hw
    intro J H1 G1 e1 hJ
    have R1 := R.mono e1
    have eb : Ext B G₀ H1 G1 := R1.ext
    refine ⟨fun k m σ H => m = ds.length - k ∧ k ≤ ds.length ∧ ∃ G δ, Rel X B G1 σ H G δ ∧ WS X B G₀ D' (forO tg F (ds.drop k) δ), ⟨ds.length, by simp, Nat.zero_le _, G1, δ, R1.up, by simpa using hw⟩, ?_⟩
    rintro k m σ H ⟨rfl, hk, G, δ, R, hw⟩
    obtain ⟨j1, j2⟩ := hJ H G R.ext.gg R.ext.gh
    by_cases hlt : k < ds.length
    · have hd : ds[k]? = some ds[k] := List.getElem?_eq_getElem hlt
      obtain ⟨go, yl⟩ := j1 k _ hd
      rw [List.drop_eq_getElem_cons hlt] at hw
      refine .inr ⟨go, fun σ' H' => ∃ G δ, Rel X B G1 σ' H' G δ ∧ WS X B G₀ D' (forO tg F (ds.drop (k + 1)) δ), fun σ' H' ⟨G, δ, R, hw⟩ => ⟨ds.length - (k + 1), by omega, rfl, hlt, G, δ, R, hw⟩, fun x H2 y => ?_⟩
      obtain ⟨G2, e2, i2⟩ := yl x H2 y
      unfold forO at hw
      cases q1 : tg ds[k] δ with
      | none => rw [q1] at hw; exact hw.elim
      | some δ1 =>
        rw [q1] at hw
        refine ht G1 σ H2 G2 δ δ1 _ x _ (R.mono e2) i2 q1 fun σ3 H3 G3 R3 => ⟨G1, G3, δ1, R3, ?_⟩
        dsimp only at hw
        cases q2 : F δ1 with
        | nx δ' => rw [q2] at hw; exact fun σ' H' G' R' => ⟨G', δ', R', hw⟩
        | ct δ' => rw [q2] at hw; exact fun σ' H' G' R' => ⟨G', δ', R', hw⟩
        | bk δ' => rw [q2] at hw; exact fun σ' H' G' R' => hw σ' H' G' (R'.down eb)
        | rt d => rw [q2] at hw; exact fun v H' G' e i => hw v H' G' (eb.rebase e) i
        | exc c δ' => rw [q2] at hw; exact hw.up eb
        | bad => rw [q2] at hw; exact hw
    · have e : k = ds.length := by omega
      subst e
      refine .inl ⟨j2, ?_⟩
      rw [List.drop_length] at hw
      exact hw σ H G (R.down eb)
end
end M

set_option Elab.async false
set_option linter.all false
set_option maxRecDepth 100000
set_option maxHeartbeats 4000000
namespace M
open PySem PySem.Spec PyProof.Rows L2
set_option autoImplicit false

section
variable {X : Cx} {B G₀ : Hp}
theorem itD_list {a : Addr} {xs : List V} {ds : List D} {G1 : Hp} (h1 : SqL X.K G1 a xs) (h3 : IsL X.K G1 ds xs) : ItD X (Itl X.K a) ds G1 := by
  intro H G gg gh
  have hs : SqL X.K H a xs := (gg.trans gh).seq h1
  have hi := h3.same gg
  refine ⟨fun i d e => ?_, xs, hs, by rw [h3.length]; exact Nat.le_refl _⟩
  obtain ⟨x, hx, ix⟩ := hi.get e
  refine ⟨⟨xs, x, hs, hx⟩, fun y H2 ⟨eq, q⟩ => ?_⟩
  subst eq
  have := q xs hs
  rw [hx] at this; cases this
  exact ⟨G, Ext.refl gh, ix⟩
theorem itD_tup {a : Addr} {xs : List V} {ds : List D} {G1 : Hp} (h1 : SqT X.K G1 a xs) (h3 : IsL X.K G1 ds xs) : ItD X (Itt X.K a) ds G1 := by
  intro H G gg gh
  have hs : SqT X.K H a xs := SqT.same (gg.trans gh) h1
  have hi := h3.same gg
  refine ⟨fun i d e => ?_, xs, hs, by rw [h3.length]; exact Nat.le_refl _⟩
  obtain ⟨x, hx, ix⟩ := hi.get e
  refine ⟨⟨xs, x, hs, hx⟩, fun y H2 ⟨eq, q⟩ => ?_⟩
  subst eq
  have := q xs hs
  rw [hx] at this; cases this
  exact ⟨G, Ext.refl gh, ix⟩
noncomputable def Its (x : Str) : It := ⟨fun i _ => i < x.length, fun i H v H' => H' = H ∧ ∃ c, x.cps[i]? = some c ∧ v = .str (chr1 c), fun i _ => x.length ≤ i⟩
noncomputable def signsD (x : Str) : List D := x.cps.toList.map fun c => .str (chr1 c)
theorem itD_str {x : Str} {G1 : Hp} (ok : PyData.strOk x = true) : ItD X (Its x) (signsD x) G1 := by
  intro H G gg gh
  have hl : (signsD x).length = x.length := by simp [signsD, Str.length]
  refine ⟨fun i d e => ?_, by rw [hl]; exact Nat.le_refl _⟩
  have hi : i < x.length := by rw [← hl]; exact (List.getElem?_eq_some_iff.mp e).1
  refine ⟨hi, fun v H2 ⟨eq, c, hc, hv⟩ => ?_⟩
  subst eq
  refine ⟨G, Ext.refl gh, ?_⟩
  have e2 : d = .str (chr1 c) := by
    unfold signsD at e
    rw [List.getElem?_map] at e
    have : x.cps.toList[i]? = some c := by simpa using hc
    rw [this] at e
    cases e; rfl
  subst e2
  refine ⟨hv, (by show 1 ≤ sizeLine; decide), ?_⟩
  have hm : c ∈ x.cps := by
    have : x.cps.toList[i]? = some c := by simpa using hc
    simpa using List.mem_of_getElem? this
  unfold PyData.strOk at ok ⊢
  have := Array.all_eq_true_iff_forall_mem.mp ok c hm
  simpa [chr1] using this
theorem turn_ascii {P : Program} {w : World} {K : PySem.W.Frag} {tg : Expr} (x : Str) (t : Tok) (it : Addr) : Turn P w K tg (Its x) [it] it (fun i h => h.IsStrIter it "str_ascii_iterator" x t i) where
  mem := by simp
  obj := fun i h st b hb => by
    have e : b = it := by simpa using hb
    subst e
    obtain ⟨o, e, c, d⟩ := st
    exact ⟨o, e, fun v z => by rw [d] at z; cases z⟩
  keep := fun i h h' ⟨o, e, r⟩ k => ⟨o, k it (by simp) o e, r⟩
  item := by
    intro X hP hw hK hc i pins s σ H E I hf st hg
    subst hP hw hK
    obtain ⟨f0, f1, f2, f3, f4, f5⟩ := hf it (by simp)
    have hi : i < x.cps.size := hg
    have hx : x.cps[i]? = some x.cps[i] := by simp [hi]
    refine wpAny_pyNext_ascii_item st hx fun h' st' sb => ?_
    have I1 : Inv X pins σ H { s with heap := h', toks := s.toks + 1 } := I.turned (t' := s.toks + 1) (fun b o hb e => (sb.2 b hb).trans e) f0 f1 f3 f4 f5
    obtain ⟨o, e, c, d⟩ := id st'
    exact ⟨_, rfl, go_of (s := { s with heap := h', toks := s.toks + 1 }) e c d (by decide) ⟨.str (chr1 x.cps[i]), H, I1, ⟨_, rfl⟩, ⟨rfl, _, hx, rfl⟩, st', fun b hb => (hf b hb).1⟩⟩
  done := by
    intro X hP hw hK hc i pins s σ H E I hf st hg
    subst hP hw hK
    obtain ⟨f0, f1, f2, f3, f4, f5⟩ := hf it (by simp)
    have hi : x.cps.size ≤ i := hg
    exact wpAny_pyNext_ascii_end (I.ok.hd hc) st (by simp [hi]) fun h' eb => ⟨rfl, I.turned (t' := s.toks) (fun b o hb e => eb b o hb e) f0 f1 f3 f4 f5⟩
  self := fun _ _ _ _ _ st h => wpAny_pyIter_striter_ascii st h
theorem turn_wide {P : Program} {w : World} {K : PySem.W.Frag} {tg : Expr} (x : Str) (t : Tok) (it : Addr) : Turn P w K tg (Its x) [it] it (fun i h => h.IsStrIter it "str_iterator" x t i) where
  mem := by simp
  obj := fun i h st b hb => by
    have e : b = it := by simpa using hb
    subst e
    obtain ⟨o, e, c, d⟩ := st
    exact ⟨o, e, fun v z => by rw [d] at z; cases z⟩
  keep := fun i h h' ⟨o, e, r⟩ k => ⟨o, k it (by simp) o e, r⟩
  item := by
    intro X hP hw hK hc i pins s σ H E I hf st hg
    subst hP hw hK
    obtain ⟨f0, f1, f2, f3, f4, f5⟩ := hf it (by simp)
    have hi : i < x.cps.size := hg
    have hx : x.cps[i]? = some x.cps[i] := by simp [hi]
    refine wpAny_pyNext_wide_item st hx fun h' st' sb => ?_
    have I1 : Inv X pins σ H { s with heap := h', toks := s.toks + 1 } := I.turned (t' := s.toks + 1) (fun b o hb e => (sb.2 b hb).trans e) f0 f1 f3 f4 f5
    obtain ⟨o, e, c, d⟩ := id st'
    exact ⟨_, rfl, go_of (s := { s with heap := h', toks := s.toks + 1 }) e c d (by decide) ⟨.str (chr1 x.cps[i]), H, I1, ⟨_, rfl⟩, ⟨rfl, _, hx, rfl⟩, st', fun b hb => (hf b hb).1⟩⟩
  done := by
    intro X hP hw hK hc i pins s σ H E I hf st hg
    subst hP hw hK
    obtain ⟨f0, f1, f2, f3, f4, f5⟩ := hf it (by simp)
    have hi : x.cps.size ≤ i := hg
    exact wpAny_pyNext_wide_end (I.ok.hd hc) st (by simp [hi]) fun h' eb => ⟨rfl, I.turned (t' := s.toks) (fun b o hb e => eb b o hb e) f0 f1 f3 f4 f5⟩
  self := fun _ _ _ _ _ st h => wpAny_pyIter_striter_wide st h
noncomputable def itR : D → Rs (List D)
  | .lst ds => .ok ds
  | .tup ds => .ok ds
  | .str x => .ok (signsD x)
  | _ => .bad
variable {l : Expr} {fe : DS → Rs D} {tg : Expr}
theorem pdi_any (hl : PE X l (tE X B G₀ fe)) : PI X tg l (tI X B G₀ fun δ => fe δ >>= itR) := by
  intro pins s σ H Rk I ⟨G, δ, R, hw⟩
  refine bindE hl I R hw fun d u v s1 H1 G1 I1 R1 r1 e1 i1 hw1 => ?_
  have fp1 : ∀ b ∈ [s1.heap.objs.size], FpOk X pins H1 b := fun b hb => by
    have e : b = s1.heap.objs.size := by simpa using hb
    subst e
    exact I1.fpOk (Nat.le_refl _) (I1.hok.fresh (Nat.le_refl _))
  cases d with
  | lst ds =>
    obtain ⟨a, xs, rfl, h1, h2, h3⟩ := i1
    cases r1
    obtain ⟨its, rv, p, hz⟩ := I1.list (R1.ext.gh.seq h1)
    refine wpAny_pyIter_list p.isList ?_
    exact ⟨s1.heap.objs.size, [s1.heap.objs.size], _, _, H1, rfl, I1.kept (t' := s1.toks) fun b o e => Heap.get?_push_of_some _ e, turn_list a _, ⟨_, Heap.get?_push_size _ rfl, rfl, rfl⟩, fp1, hw1 _ H1 G1 e1 (itD_list h1 h3)⟩
  | tup ds =>
    obtain ⟨a, xs, rfl, h1, h2, h3⟩ := i1
    cases r1
    obtain ⟨its, rv, p, hz⟩ := I1.tuple (SqT.same R1.ext.gh h1)
    refine wpAny_pyIter_tuple (show s1.heap.IsTuple a its.toArray from p) ?_
    exact ⟨s1.heap.objs.size, [s1.heap.objs.size], _, _, H1, rfl, I1.kept (t' := s1.toks) fun b o e => Heap.get?_push_of_some _ e, turn_tuple a _, ⟨_, Heap.get?_push_size _ rfl, rfl, rfl⟩, fp1, hw1 _ H1 G1 e1 (itD_tup h1 h3)⟩
  | str x =>
    obtain ⟨rfl, h2, h3⟩ := i1
    obtain ⟨t, rfl⟩ := r1
    cases ha : x.cps.all (· < 128) with
    | false =>
      refine wpAny_pyIter_wide ha ?_
      exact ⟨s1.heap.objs.size, [s1.heap.objs.size], _, _, H1, rfl, I1.kept (t' := s1.toks) fun b o e => Heap.get?_push_of_some _ e, turn_wide x t _, ⟨_, Heap.get?_push_size _ rfl, rfl, rfl⟩, fp1, hw1 _ H1 G1 e1 (itD_str h3)⟩
    | true =>
      refine wpAny_pyIter_ascii ha ?_
      exact ⟨s1.heap.objs.size, [s1.heap.objs.size], _, _, H1, rfl, I1.kept (t' := s1.toks) fun b o e => Heap.get?_push_of_some _ e, turn_ascii x t _, ⟨_, Heap.get?_push_size _ rfl, rfl, rfl⟩, fp1, hw1 _ H1 G1 e1 (itD_str h3)⟩
  | _ => exact hw1.elim
noncomputable def rngD (lo : Int) (n : Nat) : List D := (List.range n).map fun (k : Nat) => .int (lo + (k : Int))
theorem itD_rng {lo : Int} {n : Nat} {G1 : Hp} : ItD X (Itr lo n) (rngD lo n) G1 := by
  intro H G gg gh
  have hl : (rngD lo n).length = n := by simp [rngD]
  refine ⟨fun i d e => ?_, by rw [hl]; exact Nat.le_refl _⟩
  have hi : i < n := by rw [← hl]; exact (List.getElem?_eq_some_iff.mp e).1
  refine ⟨hi, fun v H2 ⟨eq, hv⟩ => ?_⟩
  subst eq
  refine ⟨G, Ext.refl gh, ?_⟩
  have e2 : d = .int (lo + i) := by
    unfold rngD at e
    rw [List.getElem?_map, List.getElem?_range hi] at e
    cases e; rfl
  subst e2
  exact hv
noncomputable def inRng (j : Int) : Bool := decide (-(2 ^ 62) ≤ j ∧ j < 2 ^ 62)
noncomputable def rngR : List D → Rs (List D)
  | [.int j] => if inRng j = true then .ok (rngD 0 j.toNat) else .bad
  | [.int i, .int j] => if (inRng i && inRng j) = true then .ok (rngD i (j - i).toNat) else .bad
  | _ => .bad
variable {a b : Expr} {fr : DS → Rs (List D)} {p pos : Pos}
theorem pi_imp {iter : Expr} {t t' : TI} (h : PI X tg iter t) (k : ∀ σ H R, t' σ H R → t σ H R) : PI X tg iter t' := fun pins s σ H R I hw => h pins s σ H R I (k σ H R hw)
theorem pdi_range1 (hm : X.mg "range" = none) (ha : PA X [a] (tAs X B G₀ fr)) (hg : Gl X "range" := by rfl) (hs : starEach [a] X.env = [(false, eval a X.env)] := by rfl) : PI X tg (.Call (.Name "range" p) [a] [] pos) (tI X B G₀ fun δ => fr δ >>= fun ds => match ds with | [d] => rngR [d] | _ => .bad) := by
  refine pi_imp (pi_range1 hg hm ha hs) fun σ H Rk ⟨G, δ, R, hw⟩ => ⟨G, δ, R, ?_⟩
  rw [wp_bind] at hw
  refine Rs.wp.mono hw (fun _ x => x) fun ds q vs H1 G1 e1 i1 => ?_
  cases ds with
  | nil => exact q.elim
  | cons d r =>
    cases r with
    | cons _ _ => exact q.elim
    | nil =>
      cases d with
      | int j =>
        obtain ⟨v, rfl, h⟩ := isL1 i1
        cases (show v = .int j from h)
        have q : (if inRng j = true then (.ok (rngD 0 j.toNat) : Rs (List D)) else .bad).wp _ _ := q
        split at q
        · rename_i hj
          obtain ⟨h1, h2⟩ := of_decide_eq_true hj
          exact ⟨j, rfl, h1, h2, q _ H1 G1 e1 itD_rng⟩
        · exact q.elim
      | _ => exact q.elim
end
end M

set_option Elab.async false
set_option linter.all false
set_option maxRecDepth 100000
set_option maxHeartbeats 4000000
namespace M
open PySem PySem.Spec PyProof.Rows L2
set_option autoImplicit false

noncomputable def clOf (cells : List (Str × Addr)) : List (Str × NameKind) → List (Str × Addr) → List (Str × Addr)
  | [], acc => acc
  | (n, k) :: r, acc => if (k == .free) = true then clOf cells r ((n, (cells.lookup n).getD 0) :: acc) else clOf cells r acc
theorem closure_eq {env : Env} : ∀ (names : List (Str × NameKind)) (acc : List (Str × Addr)), (∀ y ∈ names, y.2 = .free → ∃ c, env.cells.lookup y.1 = some c) →
    (forIn names acc fun (p : Str × NameKind) (cs : List (Str × Addr)) => (if (p.2 == .free) = true then do let c ← cellOf env p.1; pure (ForInStep.yield ((p.1, c) :: cs)) else pure (ForInStep.yield cs) : Sem (ForInStep (List (Str × Addr))))) = (pure (clOf env.cells names acc) : Sem (List (Str × Addr)))
  | [], acc, _ => rfl
  | (n, k) :: r, acc, h => by
    have hr := fun acc => closure_eq r acc fun y hy => h y (List.mem_cons_of_mem _ hy)
    rw [List.forIn_cons]
    by_cases hk : (k == NameKind.free) = true
    · obtain ⟨c, hc⟩ := h (n, k) (List.mem_cons_self ..) (eq_of_beq hk)
      have e : cellOf env n = pure c := by
        unfold cellOf
        rw [hc]
      unfold clOf
      simp only [hk, if_true]
      rw [e, hc]
      exact hr _
    · unfold clOf
      simp only [hk, if_false]
      exact hr _
theorem closureFor_cl {scope : Scope} {env : Env} (h : ∀ y ∈ scope.names, y.2 = .free → ∃ c, env.cells.lookup y.1 = some c) : closureFor scope env = pure (clOf env.cells scope.names []) := by
  unfold closureFor
  have e := closure_eq (env := env) scope.names [] h
  first
    | exact e
    | (simp only [bind_pure]; exact e)
    | (rw [show (fun (r : List (Str × Addr)) => (pure r : Sem (List (Str × Addr)))) = pure from rfl]; simp only [bind_pure]; exact e)

theorem clOf_sub {cells : List (Str × Addr)} : ∀ (names : List (Str × NameKind)) (acc : List (Str × Addr)), (∀ y ∈ names, y.2 = .free → ∃ c, cells.lookup y.1 = some c) → (∀ y c, acc.lookup y = some c → cells.lookup y = some c) → ∀ y c, (clOf cells names acc).lookup y = some c → cells.lookup y = some c
  | [], acc, _, ha => ha
  | (n, k) :: r, acc, h, ha => by
    have hr : ∀ y ∈ r, y.2 = .free → ∃ c, cells.lookup y.1 = some c := fun y hy => h y (List.mem_cons_of_mem _ hy)
    unfold clOf
    split
    · rename_i hk
      obtain ⟨c, hc⟩ := h (n, k) (List.mem_cons_self ..) (eq_of_beq hk)
      refine clOf_sub r _ hr fun y c' e => ?_
      rw [List.lookup_cons] at e
      cases hb : y == n with
      | true =>
        rw [hb] at e
        have : y = n := eq_of_beq hb
        subst this
        have hc' : cells.lookup y = some c := hc
        rw [hc'] at e ⊢
        exact e
      | false => rw [hb] at e; exact ha y c' e
    · exact clOf_sub r acc hr ha
theorem clOf_has {cells : List (Str × Addr)} : ∀ (names : List (Str × NameKind)) (acc : List (Str × Addr)) (y : Str), ((y, NameKind.free) ∈ names ∨ (acc.lookup y).isSome = true) → ((clOf cells names acc).lookup y).isSome = true
  | [], acc, y, h => by
    rcases h with h | h
    · cases h
    · exact h
  | (n, k) :: r, acc, y, h => by
    unfold clOf
    split
    · refine clOf_has r _ y ?_
      rcases h with h | h
      · rcases List.mem_cons.mp h with e | e
        · cases e
          exact .inr (by simp)
        · exact .inl e
      · refine .inr ?_
        rw [List.lookup_cons]
        cases y == n with
        | true => rfl
        | false => exact h
    · rename_i hk
      refine clOf_has r acc y ?_
      rcases h with h | h
      · rcases List.mem_cons.mp h with e | e
        · cases e
          exact absurd rfl hk
        · exact .inl e
      · exact .inr h

noncomputable def compOk (sc scope : Scope) (N : List Str) (x : Str) (fr : List (Str × Nat)) : Bool :=
  (scope.kind == .function) && (sc.kind == .function) && scope.names.all (fun y => !(y.2 == .cell)) && scope.names.all (fun y => !(y.2 == .local) || scope.names.lookup y.1 == some .local) &&
  scope.names.all (fun y => !(y.2 == .free) || (sc.names.lookup y.1 == some .cell || sc.names.lookup y.1 == some .free)) && (scope.names.lookup x == some .local) &&
  fr.all (fun y => scope.names.lookup y.1 == some .free && scope.names.contains (y.1, .free) && (sc.names.lookup y.1 == some .cell || sc.names.lookup y.1 == some .free) && N[y.2]? == some y.1) && decide ((x :: fr.map (·.1)).Nodup)
structure CompOk (sc scope : Scope) (N : List Str) (x : Str) (fr : List (Str × Nat)) : Prop where
  kind : scope.kind = .function
  skind : sc.kind = .function
  cell : ∀ y ∈ scope.names, y.2 ≠ .cell
  loc : ∀ y ∈ scope.names, y.2 = .local → scope.names.lookup y.1 = some .local
  free : ∀ y ∈ scope.names, y.2 = .free → sc.names.lookup y.1 = some .cell ∨ sc.names.lookup y.1 = some .free
  hx : scope.names.lookup x = some .local
  frs : ∀ y ∈ fr, scope.names.lookup y.1 = some .free ∧ (y.1, NameKind.free) ∈ scope.names ∧ (sc.names.lookup y.1 = some .cell ∨ sc.names.lookup y.1 = some .free) ∧ N[y.2]? = some y.1
  nd : (x :: fr.map (·.1)).Nodup
theorem CompOk.of {sc scope : Scope} {N : List Str} {x : Str} {fr : List (Str × Nat)} (h : compOk sc scope N x fr = true) : CompOk sc scope N x fr := by
  unfold compOk at h
  simp only [Bool.and_eq_true, List.all_eq_true, Bool.or_eq_true, Bool.not_eq_true', beq_iff_eq, beq_eq_false_iff_ne, decide_eq_true_eq, List.contains_iff_mem, ne_eq] at h
  obtain ⟨⟨⟨⟨⟨⟨⟨h1, h2⟩, h3⟩, h4⟩, h5⟩, h6⟩, h7⟩, h8⟩ := h
  refine ⟨h1, h2, fun y hy => h3 y hy, fun y hy e => ?_, fun y hy e => ?_, h6, fun y hy => ?_, h8⟩
  · rcases h4 y hy with q | q
    · exact absurd e q
    · exact q
  · rcases h5 y hy with q | q
    · exact absurd e q
    · exact q
  · obtain ⟨⟨⟨q1, q2⟩, q3⟩, q4⟩ := h7 y hy
    exact ⟨q1, q2, q3, q4⟩

noncomputable def compCx (X : Cx) (scope : Scope) (x : Str) (fr : List (Str × Nat)) (C : Addr) (s₀ : Shared) (H₀ : Hp) (fp : List Addr) : Cx :=
  { X with N := x :: fr.map (·.1), s₀ := s₀, H₀ := H₀, env := compEnvC scope (clOf X.env.cells scope.names []) C X.env, outer := X.stack, stack := X.stack, ex := fp, fn := fun _ => false, pn := [], xe := fun _ _ => False }
theorem lookup_relabel_free {env : Env} : ∀ {names : List (Str × NameKind)} {x : Str}, names.lookup x = some .free →
    (names.map fun (n, k) => if (k == NameKind.free && env.scope.kind == .function && env.kindOf n == some .cell) then (n, NameKind.cell) else (n, k)).lookup x = some .cell ∨
    (names.map fun (n, k) => if (k == NameKind.free && env.scope.kind == .function && env.kindOf n == some .cell) then (n, NameKind.cell) else (n, k)).lookup x = some .free
  | [], _, h => by simp at h
  | (n, k) :: r, x, h => by
    have ih := @lookup_relabel_free env r x
    show List.lookup x ((if (k == NameKind.free && env.scope.kind == .function && env.kindOf n == some .cell) = true then (n, NameKind.cell) else (n, k)) :: _) = _ ∨ List.lookup x ((if (k == NameKind.free && env.scope.kind == .function && env.kindOf n == some .cell) = true then (n, NameKind.cell) else (n, k)) :: _) = _
    cases hx : x == n with
    | true =>
      simp only [List.lookup_cons, hx] at h
      cases h
      split <;> simp [List.lookup_cons, hx]
    | false =>
      simp only [List.lookup_cons, hx] at h
      split <;> (simp only [List.lookup_cons, hx]; exact ih h)
theorem relabel_back {env : Env} : ∀ {names : List (Str × NameKind)} {x : Str} {kd : NameKind}, (∀ y ∈ names, y.2 ≠ .cell) →
    (names.map fun (n, k) => if (k == NameKind.free && env.scope.kind == .function && env.kindOf n == some .cell) then (n, NameKind.cell) else (n, k)).lookup x = some kd → (kd = .cell ∨ kd = .free) → (x, NameKind.free) ∈ names
  | [], _, _, _, h, _ => by simp at h
  | (n, k) :: r, x, kd, hc, h, hk => by
    have ih := @relabel_back env r x kd fun y hy => hc y (List.mem_cons_of_mem _ hy)
    change List.lookup x ((if (k == NameKind.free && env.scope.kind == .function && env.kindOf n == some .cell) = true then (n, NameKind.cell) else (n, k)) :: _) = _ at h
    cases hx : x == n with
    | true =>
      have e : x = n := eq_of_beq hx
      subst e
      split at h
      · rename_i hq
        rw [Bool.and_eq_true, Bool.and_eq_true] at hq
        have : k = .free := eq_of_beq hq.1.1
        subst this
        exact List.mem_cons_self ..
      · simp only [List.lookup_cons, hx] at h
        cases h
        rcases hk with rfl | rfl
        · exact absurd rfl (hc (x, .cell) (List.mem_cons_self ..))
        · exact List.mem_cons_self ..
    | false =>
      split at h <;> (simp only [List.lookup_cons, hx] at h; exact List.mem_cons_of_mem _ (ih h hk))
noncomputable def innerS (σ : St) (fr : List (Str × Nat)) (v : Option V) : St := v :: fr.map fun y => (σ[y.2]?).join
noncomputable def visS : Option Sl → Option Sl
  | some (.v d) => some (.v d)
  | _ => none
noncomputable def innerD (δ : DS) (fr : List (Str × Nat)) (v : Option Sl) : DS := v :: fr.map fun y => visS (δ[y.2]?).join

theorem comp_ok {X : Cx} {pins : List (Addr × Obj)} {σ : St} {H : Hp} {s s' : Shared} {scope : Scope} {x : Str} {fr : List (Str × Nat)} {C : Addr} {fp : List Addr} {m : Str → Option Value} (c : CompOk X.env.scope scope X.N x fr) (I : Inv X pins σ H s) (hf : ∀ b ∈ fp, FpOk X pins H b) (hfl : ∀ b ∈ fp, b < s.heap.objs.size)
    (hC : C = s.heap.objs.size) (hk : ∀ b o, s.heap.get? b = some o → s'.heap.get? b = some o) (hos : s'.os = s.os) (hgn : s'.gens = s.gens) (hn : s'.heap.Ns C m) :
    Inv (compCx X scope x fr C s H fp) [] (innerS σ fr none) H s' := by
  have okX := I.ok
  have hfree : ∀ y ∈ scope.names, y.2 = .free → ∃ d, X.env.cells.lookup y.1 = some d := fun y hy e => okX.has y.1 (c.free y hy e)
  have hsub := clOf_sub (cells := X.env.cells) scope.names [] hfree (fun y d e => by cases e)
  have hCs : s.heap.objs.size ≤ C := by rw [hC]; exact Nat.le_refl _
  refine ⟨⟨okX.mod, c.kind, okX.glob, okX.blt, hCs, fun y z d h1 h2 => okX.inj y z d (hsub y d h1) (hsub z d h2), fun y hy => ?_, fun y d h _ => (by cases h), okX.hd, okX.frames, .inl rfl, fun b hb => ⟨?_, fun y d e z => ?_⟩, I.bs, Nat.le_trans okX.bsz I.sz, fun b o e hb => ?_, fun b hb hz => ?_, I.stack, I.stkFree⟩,
    hos, (by rw [hgn]; exact I.bare), Un.kept hk, ⟨m, hn, fun i y v h1 h2 h3 => ?_⟩, fun y d e => ?_, ?_, fun y d e => I.freeC y d (hsub y d e), fun p hp => (by cases hp), I.hok.kept hk, ?_⟩
  · have hy' : ∃ kd, (relabel scope X.env).names.lookup y = some kd ∧ (kd = .cell ∨ kd = .free) := by
      rcases hy with h | h
      · exact ⟨_, h, .inl rfl⟩
      · exact ⟨_, h, .inr rfl⟩
    obtain ⟨kd, h1, h2⟩ := hy'
    have hm := relabel_back (env := X.env) c.cell h1 h2
    exact Option.isSome_iff_exists.mp (clOf_has scope.names [] y (.inl hm))
  · exact Nat.ne_of_lt (Nat.lt_of_lt_of_le (hfl b hb) hCs)
  · exact (hf b hb).2.2.2.2.1 y d (hsub y d e) z
  · have hb' := hf b hb
    rcases hb'.2.2.2.1 with z | z
    · exact okX.noex b o e z
    · exact absurd (Nat.lt_of_lt_of_le (Heap.lt_size e) (Nat.le_trans okX.bsz z)) (Nat.lt_irrefl _)
  · have := I.stkSub b hz
    rcases List.mem_cons.mp this with e | e
    · exact (hf b hb).2.1 e
    · exact (hf b hb).2.2.1 e
  · cases i with
    | zero => cases h2
    | succ j =>
      have h1' : (fr.map (·.1))[j]? = some y := h1
      have h2' : (fr.map fun y => (σ[y.2]?).join)[j]? = some (some v) := h2
      rw [List.getElem?_map] at h1' h2'
      cases q : fr[j]? with
      | none => rw [q] at h1'; cases h1'
      | some z =>
        rw [q] at h1' h2'
        cases h1'
        obtain ⟨q1, q2, q3, q4⟩ := c.frs z (List.mem_of_getElem? q)
        have hσ : σ[z.2]? = some (some v) := by
          have : (σ[z.2]?).join = some v := by simpa using h2'
          cases e : σ[z.2]? with
          | none => rw [e] at this; cases this
          | some o => rw [e] at this; cases o with
            | none => cases this
            | some w => cases this; rfl
        have vis : Vis X.env.scope z.1 := by rcases q3 with k | k; exact .inr (.inl k); exact .inr (.inr k)
        obtain ⟨mX, hnX, hl⟩ := I.loc
        obtain ⟨u, r, l⟩ := hl z.2 z.1 v q4 hσ vis
        refine ⟨u, r, .inr ⟨lookup_relabel_free q1, ?_⟩⟩
        rcases l with ⟨k, _⟩ | ⟨k, d, hd, hcell⟩
        · have k' : X.env.scope.names.lookup z.1 = some .local := k
          rcases q3 with q3 | q3 <;> (rw [q3] at k'; cases k')
        · obtain ⟨d', hd'⟩ := Option.isSome_iff_exists.mp (clOf_has (cells := X.env.cells) scope.names [] z.1 (.inl q2))
          have e := hsub z.1 d' hd'
          rw [hd] at e; cases e
          obtain ⟨o, ho, hdt⟩ := hcell
          exact ⟨d, hd', o, hk d o ho, hdt⟩
  · obtain ⟨v, o, ho, hd⟩ := I.cell y d (hsub y d e)
    exact ⟨v, o, hk d o ho, hd⟩
  · show H C = none
    rw [hC]; exact I.hok.fresh (Nat.le_refl _)
  · show (innerS σ fr none).length = (x :: fr.map (·.1)).length
    simp [innerS]
end M

set_option Elab.async false
set_option linter.all false
set_option maxRecDepth 100000
set_option maxHeartbeats 4000000
namespace M
open PySem PySem.Spec PyProof.Rows L2
set_option autoImplicit false

noncomputable def compL (elt : D → Rs D) (tst : D → Rs Bool) : List D → Rs (List D)
  | [] => .ok []
  | d :: ds => match tst d with
    | .ok true => match elt d with
      | .ok e => match compL elt tst ds with
        | .ok r => .ok (e :: r)
        | _ => .bad
      | _ => .bad
    | .ok false => compL elt tst ds
    | _ => .bad
structure CTn where
  prog : Program
  w : World
  A : Around
  env : Env
  elt : Expr
  tgt : Expr
  ifs : List Expr
  it : Value
  acc : Value
  R : Result → Shared → Prop
  K : Shared → Prop
noncomputable def CTn.e (t : CTn) : Value → Shared → Prop := notedBy (model t.prog t.w) t.A t.env fun e s' => t.R (.error e) s'
noncomputable def CTn.add (t : CTn) : Value → Shared → Prop := fun x s => wpAny (model t.prog t.w) t.A (call (.builtin "list.append") [t.acc, x]) (fun _ s' => t.K s') t.e s
noncomputable def CTn.el (t : CTn) : Bool → Shared → Prop := fun ok s => if ok = true then wpAny (model t.prog t.w) t.A (eval t.elt t.env) t.add t.e s else t.K s
noncomputable def CTn.ts (t : CTn) : Unit → Shared → Prop := fun _ s => wpAny (model t.prog t.w) t.A (forIn t.ifs true fun c r => if r = true then do let ok ← isTrue c t.env (eval c t.env); pure (ForInStep.yield ok) else pure (ForInStep.yield r)) t.el t.e s
noncomputable def CTn.tg (t : CTn) (v : Value) : Unit → Shared → Prop := fun _ s => wpAny (model t.prog t.w) t.A (assign t.tgt t.env v) t.ts t.e s
noncomputable def CTn.got (t : CTn) : Option Value → Shared → Prop := fun r s => match r with
  | none => t.R (.ok .next) s
  | some v => wpAny (model t.prog t.w) t.A (letOwnedTupleGo t.tgt t.it v) (t.tg v) t.e s
theorem comp_loop {prog : Program} {w : World} {A : Around} {R : Result → Shared → Prop} {s : Shared} {elt target iter : Expr} {ifs : List Expr} {scope : Scope} {pos : Pos} {it acc : Value} {env : Env} (I : Nat → Shared → Prop)
    (turn : ∀ n s, I n s → wpAny (model prog w) A (pyNext it) (CTn.got ⟨prog, w, A, env, elt, target, ifs, it, acc, R, fun s' => ∃ m, m < n ∧ I m s'⟩) (CTn.e ⟨prog, w, A, env, elt, target, ifs, it, acc, R, fun s' => ∃ m, m < n ∧ I m s'⟩) s)
    (n : Nat) (h : I n s) : codeAny (model prog w) A (.compLoop (.ListComp elt [⟨target, iter, ifs, 0⟩] scope pos) 0 it acc env) R s := by
  refine codeAny_loop rfl I (fun n s hI => ?_) n h
  show wpAny _ A ((compTurn (.ListComp elt [⟨target, iter, ifs, 0⟩] scope pos) 0 it acc env).onRaise (fun x => do noteFrame x env; theTreesLotGoes x)) _ _ s
  refine wpAny_noted ?_
  rw [compTurn_list]
  refine wpAny_bind (wpAny_standAt (wpAny_bind (wpAny_mono (turn n s hI) (fun r s₁ h₁ => ?_) fun _ _ h' => h')))
  cases r with
  | none => exact wpAny_pure h₁
  | some v =>
    refine wpAny_bind (wpAny_mono h₁ (fun _ s₀ h₀ => ?_) fun _ _ h' => h')
    refine wpAny_bind (wpAny_mono h₀ (fun _ s₂ h₂ => wpAny_bind (wpAny_mono h₂ (fun ok s₃ h₃ => ?_) fun _ _ h' => h')) fun _ _ h' => h')
    cases ok with
    | false => exact wpAny_pure ⟨rfl, h₃⟩
    | true =>
      exact wpAny_bind (wpAny_bind (wpAny_mono h₃ (fun x s₄ h₄ => wpAny_bind (wpAny_mono h₄ (fun _ s₅ h₅ => wpAny_pure (wpAny_pure ⟨rfl, h₅⟩)) fun _ _ h' => h')) fun _ _ h' => h'))

inductive Tst (X : Cx) (scope : Scope) (x : Str) (fr : List (Str × Nat)) : List Expr → (DS → Rs Bool) → Prop
  | nil : Tst X scope x fr [] fun _ => .ok true
  | one {c : Expr} {g : DS → Rs Bool} (h : ∀ C s₀ H₀ fp B G₀, PT (compCx X scope x fr C s₀ H₀ fp) c (tT (compCx X scope x fr C s₀ H₀ fp) B G₀ g)) : Tst X scope x fr [c] g
theorem Tst.run {X : Cx} {scope : Scope} {x : Str} {fr : List (Str × Nat)} {ifs : List Expr} {g : DS → Rs Bool} (h : Tst X scope x fr ifs g) {C : Addr} {s₀ : Shared} {H₀ : Hp} {fp : List Addr} {pins : List (Addr × Obj)} {s : Shared} {σ : St} {B G₀ H G : Hp} {δ : DS} {b : Bool} {Q : Bool → Shared → Prop}
    (I : Inv (compCx X scope x fr C s₀ H₀ fp) pins σ H s) (R : Rel (compCx X scope x fr C s₀ H₀ fp) B G₀ σ H G δ) (e : g δ = .ok b) (hQ : ∀ s' H' G', Inv (compCx X scope x fr C s₀ H₀ fp) pins σ H' s' → Ext H G H' G' → Q b s') :
    wpAny (model X.prog X.w) X.A (forIn ifs true fun c r => if r = true then do let ok ← isTrue c (compCx X scope x fr C s₀ H₀ fp).env (eval c (compCx X scope x fr C s₀ H₀ fp).env); pure (ForInStep.yield ok) else pure (ForInStep.yield r)) Q (fun _ _ => False) s := by
  cases h with
  | nil =>
    cases e
    exact wpAny_tests_nil (hQ s H G I (Ext.refl R.ext.gh))
  | one h =>
    refine wpAny_tests_one (thn (h C s₀ H₀ fp B G₀ pins s σ H (fun b' H' => b' = b ∧ ∃ G', Ext H G H' G') I ⟨G, δ, R, ?_⟩) fun b' s' ⟨H', I', e1, G', e2⟩ => ?_)
    · rw [e]; exact fun H' G' e => ⟨rfl, G', e⟩
    · subst e1; exact hQ s' H' G' I' e2

noncomputable def bigR (ds : List D) (r : Rs (List D)) : Rs D := if ds.length ≤ 1000000 then (match r with
  | .ok es => .ok (.lst es)
  | _ => .bad) else .bad
theorem rel_inner {X : Cx} {B G₀ : Hp} {σ : St} {H G H1 G1 : Hp} {δ : DS} {Y : Cx} (hK : Y.K = X.K) (R : Rel X B G₀ σ H G δ) (gg : Same G G1) (gh : Same G1 H1) (fr : List (Str × Nat)) {d : D} {v : V} (hv : Is X.K G1 d v) : Rel Y (fun _ => none) G1 (innerS σ fr (some v)) H1 G1 (innerD δ fr (some (.v d))) := by
  have at_ : ∀ (j : Nat) (e : Sl), (innerD δ fr (some (.v d)))[j + 1]? = some (some e) → ∃ z d', fr[j]? = some z ∧ e = .v d' ∧ δ[z.2]? = some (some (.v d')) := fun j e q => by
    have q' : (fr.map fun y => visS (δ[y.2]?).join)[j]? = some (some e) := q
    rw [List.getElem?_map] at q'
    cases qz : fr[j]? with
    | none => rw [qz] at q'; cases q'
    | some z =>
      rw [qz] at q'
      have q2 : visS (δ[z.2]?).join = some e := by simpa using q'
      cases e1 : δ[z.2]? with
      | none => rw [e1] at q2; cases q2
      | some o =>
        rw [e1] at q2
        cases o with
        | none => cases q2
        | some sl =>
          cases sl with
          | v d' => cases q2; exact ⟨z, d', rfl, rfl, e1⟩
          | ow k ds => cases q2
  refine ⟨⟨fun b o e => (by cases e), Same.refl _, gh, fun _ _ e => .inl e⟩, by simp [innerS, innerD], fun i d' q => ?_, fun i kA ds q => ?_, fun i j kB kC ds es a q1 _ _ _ => ?_⟩
  · cases i with
    | zero => cases q; exact ⟨v, rfl, by rw [hK]; exact hv⟩
    | succ j =>
      obtain ⟨z, d2, h1, h2, h3⟩ := at_ j _ q
      cases h2
      obtain ⟨w, e1, e2⟩ := R.val z.2 _ h3
      refine ⟨w, ?_, by rw [hK]; exact e2.same gg⟩
      show (fr.map fun y => (σ[y.2]?).join)[j]? = some (some w)
      rw [List.getElem?_map, h1]
      simp [e1]
  · cases i with
    | zero => cases q
    | succ j => obtain ⟨z, d2, h1, h2, h3⟩ := at_ j _ q; cases h2
  · cases i with
    | zero => cases q1
    | succ j => obtain ⟨z, d2, h1, h2, h3⟩ := at_ j _ q1; cases h2
structure COk (X : Cx) (pins : List (Addr × Obj)) (H : Hp) (C : Addr) : Prop where
  a : X.s₀.heap.objs.size ≤ C
  b : C ≠ X.env.locals
  c : ∀ x c, X.env.cells.lookup x = some c → c ≠ C
  d : ∀ p ∈ X.pn ++ pins, p.1 ≠ C
  e : H C = none
theorem inv_offC {X : Cx} {pins : List (Addr × Obj)} {σ : St} {H : Hp} {s : Shared} {C : Addr} {h7 : Heap} (I : Inv X pins σ H s) (k : COk X pins H C) (sb : Heap.SameBut C s.heap h7) : Inv X pins σ H { s with heap := h7 } := by
  have kp : ∀ b o, b ≠ C → s.heap.get? b = some o → h7.get? b = some o := fun b o hb e => (sb.2 b hb).trans e
  have un : Un (frs X.stack) [C] H H s.heap h7 := by
    refine ⟨fun b o e n hb hx => kp b o (fun z => hx (by simp [z])) e, fun b o e n hb hx => ⟨o.slots, kp b o (fun z => hx (by simp [z])) e⟩, fun b o e n _ => n, fun b o e hx => ⟨o, kp b o (fun z => hx (by simp [z])) e⟩, fun _ _ q => q, fun _ _ _ q => q, fun _ ps q => ⟨#[], by rw [q]; simp⟩⟩
  have hok : HOk X.prog X.w H h7 := fun b ob e => by
    refine (I.hok b ob e).stay (fun d o hd q => kp d o ?_ q) (fun _ q => q) fun _ _ q => q
    rintro rfl
    rcases hd with z | z
    · rw [← z, k.e] at e; cases e
    · rw [k.e] at z; cases z
  exact I.call' (s' := { s with heap := h7 }) rfl un hok I.bare fun b hb => by
    rw [List.mem_singleton.mp hb]
    exact ⟨.inr k.a, k.b, k.c, k.d⟩
inductive CompI (X : Cx) (Y : Cx) (fp : List Addr) (tn : Nat → Heap → Prop) (inn : Option V → St) (cl : List D → Rs (List D)) (H2 G2 : Hp) (Dl : Addr) (ds all : List D) (n : Nat) (s' : Shared) : Prop
  | mk (k : Nat) (vx : Option V) (H' G' : Hp) (ys : List V) (es rest : List D) (h1 : k ≤ ds.length) (h2 : n = ds.length - k) (h3 : Inv Y [] (inn vx) H' s') (h4 : tn k s'.heap) (h5 : ∀ b ∈ fp, H' b = none)
      (h6 : Ext H2 G2 H' G') (h7 : G' Dl = none) (h8 : H' Dl = some (.lst ys)) (h9 : IsL X.K G' es ys) (h10 : es.length ≤ k) (h11 : cl (ds.drop k) = .ok rest) (h12 : all = es ++ rest)
theorem comp_gen {X : Cx} {B G₀ : Hp} {elt iter : Expr} {x : Str} {px : Pos} {ifs : List Expr} {scope sc : Scope} {N : List Str} {pos : Pos} {f : DS → Rs (List D)} {fe : DS → Rs D} {gt : DS → Rs Bool} (fr : List (Str × Nat)) (hok : compOk sc scope N x fr = true) (hsc : X.env.scope = sc) (hN : X.N = N) (hcalm : X.calm = true)
    (hi : PI X (.Name x px) iter (tI X B G₀ f)) (ht : Tst X scope x fr ifs gt) (he : ∀ C s₀ H₀ fp B' G', PE (compCx X scope x fr C s₀ H₀ fp) elt (tE (compCx X scope x fr C s₀ H₀ fp) B' G' fe))
    (hs : ∀ x, foldedSetIterable iter X.env x = pure x)
    {use : Option (Value → Sem Unit)} {Post : Value → Shared → Prop} {Pd : D → Prop} {pins : List (Addr × Obj)} {s : Shared} {σ : St} {H G : Hp} {δ : DS} (I : Inv X pins σ H s) (R : Rel X B G₀ σ H G δ)
    (hw : (f δ >>= fun ds => bigR ds (compL (fun d => fe (innerD δ fr (some (.v d)))) (fun d => gt (innerD δ fr (some (.v d)))) ds)).wp (fun c => Xo X c σ H G) Pd)
    (fin : ∀ (d : D) (C Dl : Addr) (m : Str → Option Value) (s6 : Shared) (H5 G5 : Hp) (r : Flow), Pd d → Inv X pins σ H5 s6 → s6.heap.Ns C m → COk X pins H5 C → Ext H G H5 G5 → Is X.K G5 d (.ref Dl) → compPost (model X.prog X.w) X.A X.xe use Post (.ref Dl) C (.ok r) s6) :
    wpAny (model X.prog X.w) X.A (comprehension (.ListComp elt [⟨.Name x px, iter, ifs, 0⟩] scope pos) scope X.env (firstIterPos [⟨.Name x px, iter, ifs, 0⟩] pos) (newList []) (firstAsync [⟨.Name x px, iter, ifs, 0⟩]) (firstIter [⟨.Name x px, iter, ifs, 0⟩] X.env) use) Post X.xe s := by
  subst hsc; subst hN
  have c := CompOk.of hok
  have hfree : ∀ y ∈ scope.names, y.2 = .free → ∃ d, X.env.cells.lookup y.1 = some d := fun y hy e => I.ok.has y.1 (c.free y hy e)
  refine wpAny_comprehension_free (use := use) rfl hs (closureFor_cl hfree) c.kind c.loc ?_
  show wpAny (model X.prog X.w) X.A (eval iter X.env) _ X.xe s
  rw [wp_bind] at hw
  refine thn (hi pins s σ H (fun J H2 => ∃ G2 ds, Ext H G H2 G2 ∧ ItD X J ds G2 ∧ (bigR ds (compL (fun d => fe (innerD δ fr (some (.v d)))) (fun d => gt (innerD δ fr (some (.v d)))) ds)).wp (fun c => Xo X c σ H G) Pd) I
    ⟨G, δ, R, Rs.wp.mono hw (fun _ x => x) fun ds q J H2 G2 e2 hJ => ⟨G2, ds, e2, hJ, q⟩⟩) fun v1 s1 h1 => thn h1 fun itv s2 h2 => ?_
  obtain ⟨it, fp, tn, J, H2, e, I2, T, st2, f2, G2, ds, e2, hJ, hq⟩ := h2
  subst e
  have hq : ds.length ≤ 1000000 ∧ ∃ all, compL (fun d => fe (innerD δ fr (some (.v d)))) (fun d => gt (innerD δ fr (some (.v d)))) ds = .ok all ∧ Pd (.lst all) := by
    unfold bigR at hq
    split at hq
    · rename_i hl
      refine ⟨hl, ?_⟩
      cases e : compL (fun d => fe (innerD δ fr (some (.v d)))) (fun d => gt (innerD δ fr (some (.v d)))) ds with
      | ok all => rw [e] at hq; exact ⟨all, rfl, hq⟩
      | exc c => rw [e] at hq; exact hq.elim
      | bad => rw [e] at hq; exact hq.elim
    · exact hq.elim
  obtain ⟨hlen, all, hall, hq⟩ := hq
  refine wpAny_newObj_type ?_ (Nat.zero_le _)
  -- the new list
  generalize hD : s2.heap.objs.size = Dl
  have I3 : Inv X pins σ (upd H2 Dl (.lst [])) { s2 with heap := s2.heap.push { cls := .type "list", dict := none, data := .seq ([] : List Value).toArray } } := by
    have := I2.lnew (ys := []) (its := []) (t' := s2.toks) .nil (Nat.zero_le _)
    rw [hD] at this
    exact this
  have hDn : H2 Dl = none := by rw [← hD]; exact I2.hok.fresh (Nat.le_refl _)
  generalize hs3 : ({ s2 with heap := s2.heap.push { cls := .type "list", dict := none, data := .seq ([] : List Value).toArray } } : Shared) = s3 at I3 ⊢
  have k23 : ∀ b o, s2.heap.get? b = some o → s3.heap.get? b = some o := fun b o e => by rw [← hs3]; exact Heap.get?_push_of_some _ e
  have f3 : ∀ b ∈ fp, FpOk X pins (upd H2 Dl (.lst [])) b := fun b hb => by
    obtain ⟨q0, q1, q2, q3, q4, q5⟩ := f2 b hb
    obtain ⟨o, ho, _⟩ := T.obj 0 _ st2 b hb
    refine ⟨?_, q1, q2, q3, q4, q5⟩
    rw [upd_ne (by rw [← hD]; exact Nat.ne_of_lt (Heap.lt_size ho))]
    exact q0
  have hfl : ∀ b ∈ fp, b < s3.heap.objs.size := fun b hb => by
    obtain ⟨o, ho, _⟩ := T.obj 0 _ st2 b hb
    exact Heap.lt_size (k23 b o ho)
  refine wpAny_newFunctionEnv c.cell (by intro y hy; cases hy) (fun h' hns hsb => ?_) c.kind
  have k34 : ∀ b o, s3.heap.get? b = some o → h'.get? b = some o := fun b o e => hsb.extBut b o (Nat.ne_of_lt (Heap.lt_size e)) (Heap.get?_push_of_some _ e)
  generalize hCd : s3.heap.objs.size = C at hns hsb
  show codeAny (model X.prog X.w) X.A (.compStart _ 0 (.ref it) (.ref Dl) (compEnvC scope (clOf X.env.cells scope.names []) C X.env)) _ _
  have IY : Inv (compCx X scope x fr C s3 (upd H2 Dl (.lst [])) fp) [] (innerS σ fr none) (upd H2 Dl (.lst [])) { s3 with heap := h', toks := s3.toks + ([] : List (Str × Value)).length } :=
    comp_ok c I3 f3 hfl hCd.symm k34 rfl rfl hns
  have st4 : tn 0 h' := T.keep 0 _ _ st2 fun b hb o e => k34 b o (k23 b o e)
  generalize hs4 : ({ s3 with heap := h', toks := s3.toks + ([] : List (Str × Value)).length } : Shared) = s4 at IY ⊢
  have st4 : tn 0 s4.heap := by rw [← hs4]; exact st4
  -- the loop
  have loop : codeAny (model X.prog X.w) X.A (.compLoop (.ListComp elt [⟨.Name x px, iter, ifs, 0⟩] scope pos) 0 (.ref it) (.ref Dl) (compEnvC scope (clOf X.env.cells scope.names []) C X.env)) (compPost (model X.prog X.w) X.A X.xe use Post (.ref Dl) C) s4 := by
    refine comp_loop (CompI X (compCx X scope x fr C s3 (upd H2 Dl (.lst [])) fp) fp tn (innerS σ fr) (compL (fun d => fe (innerD δ fr (some (.v d)))) (fun d => gt (innerD δ fr (some (.v d))))) H2 G2 Dl ds all) ?_ ds.length
      ⟨0, none, _, G2, [], [], all, Nat.zero_le _, rfl, IY, st4, fun b hb => (f3 b hb).1, Ext.own e2.gh hDn, e2.gh.free hDn, upd_same, rfl, Nat.le_refl _, hall, rfl⟩
    rintro n s5 ⟨k, vx, H5, G5, ys, es, rest, hk, rfl, I5, st5, fr5, e5, gD5, hD5, hL5, hz5, hr5, ha5⟩
    have f5 : ∀ {H' : Hp}, (∀ b ∈ fp, H' b = none) → ∀ {pins' : List (Addr × Obj)}, (∀ p ∈ pins', p.1 ∉ fp) → ∀ b ∈ fp, FpOk (compCx X scope x fr C s3 (upd H2 Dl (.lst [])) fp) pins' H' b := fun {H'} hn {pins'} hp b hb => by
      obtain ⟨q1, q2⟩ := IY.ok.exf b hb
      exact ⟨hn b hb, q1, IY.ok.exfs b hb, .inl hb, q2, fun p hp' z => hp p (by simpa [compCx] using hp') (z ▸ hb)⟩
    have nopins : ∀ p ∈ ([] : List (Addr × Obj)), p.1 ∉ fp := fun p hp => by cases hp
    obtain ⟨j1, j2⟩ := hJ H5 G5 e5.gg e5.gh
    by_cases hlt : k < ds.length
    · have hd : ds[k]? = some ds[k] := List.getElem?_eq_getElem hlt
      obtain ⟨go, yl⟩ := j1 k _ hd
      rw [List.drop_eq_getElem_cons hlt] at hr5
      refine wpAny_mono (T.item (compCx X scope x fr C s3 (upd H2 Dl (.lst [])) fp) rfl rfl rfl hcalm k [] s5 _ H5 (fun _ _ => False) I5 (f5 fr5 nopins) st5 go) (fun r s6 ⟨u, hr, h6⟩ => ?_) fun _ _ z => z.elim
      subst hr
      refine wpAny_mono h6 (fun _ s7 ⟨xv, H7, I7, r7, y7, st7, fr7⟩ => ?_) fun _ _ z => z.elim
      obtain ⟨G7, e7, i7⟩ := yl xv H7 y7
      have I7' := I7.pinned (f5 fr7 nopins) (T.obj _ _ st7)
      -- the target
      have hg : PG (compCx X scope x fr C s3 (upd H2 Dl (.lst [])) fp) (.Name x px) (gName 0) := pg_name c.nd rfl (.inl (lookup_relabel_local c.hx)) (.inr (lookup_relabel_local c.hx))
      refine wpAny_mono (hg _ s7 _ H7 xv u (fun σ' H' => σ' = innerS σ fr (some xv) ∧ H' = H7) I7' r7 ⟨by simp [innerS], rfl⟩) (fun _ s8 ⟨σ8, H8, I8, hσ8, hH8⟩ => ?_) fun _ _ z => z.elim
      subst hσ8; subst hH8
      have R8 := rel_inner (X := X) (Y := compCx X scope x fr C s3 (upd H2 Dl (.lst [])) fp) rfl (R.mono e2) (e5.gg.trans e7.gg) e7.gh fr i7
      -- the test
      unfold compL at hr5
      have done : ∀ {s9 : Shared} {H9 G9 : Hp} {ys9 : List V} {es9 : List D}, Inv (compCx X scope x fr C s3 (upd H2 Dl (.lst [])) fp) ([] ++ pinsAt fp s7.heap) (innerS σ fr (some xv)) H9 s9 → Ext H2 G2 H9 G9 → G9 Dl = none → H9 Dl = some (.lst ys9) → IsL X.K G9 es9 ys9 → es9.length ≤ k + 1 → ∀ rest9,
          compL (fun d => fe (innerD δ fr (some (.v d)))) (fun d => gt (innerD δ fr (some (.v d)))) (ds.drop (k + 1)) = .ok rest9 → all = es9 ++ rest9 → ∃ m, m < ds.length - k ∧ CompI X (compCx X scope x fr C s3 (upd H2 Dl (.lst [])) fp) fp tn (innerS σ fr) (compL (fun d => fe (innerD δ fr (some (.v d)))) (fun d => gt (innerD δ fr (some (.v d))))) H2 G2 Dl ds all m s9 := fun {s9 H9 G9 ys9 es9} I9 x1 x2 x3 x4 x5 rest9 x6 x7 => by
        refine ⟨ds.length - (k + 1), by omega, k + 1, some xv, H9, G9, ys9, es9, rest9, hlt, rfl, I9.unpinned, T.keep _ _ _ st7 fun b hb o e => (I9.pin (b, o) (List.mem_append_right _ (List.mem_append_right _ (mem_pinsAt hb e)))).1, fun b hb => ?_, x1, x2, x3, x4, x5, x6, x7⟩
        obtain ⟨o, e, d⟩ := T.obj _ _ st7 b hb
        exact (I9.pin (b, o) (List.mem_append_right _ (List.mem_append_right _ (mem_pinsAt hb e)))).2.1
      have keepD : ∀ {Ha Ga Hb Gb : Hp}, Ext Ha Ga Hb Gb → Ga Dl = none → (∃ o, Ha Dl = some o) → Gb Dl = none := fun {Ha Ga Hb Gb} e g ⟨o, h⟩ => by
        cases q : Gb Dl with
        | none => rfl
        | some z =>
          rcases e.new Dl z q with w | w
          · rw [g] at w; cases w
          · rw [h] at w; cases w
      have e57 := e5.trans e7
      have gD7 := keepD e7 gD5 ⟨_, hD5⟩
      have hD7 := e7.hh _ _ hD5
      cases qt : gt (innerD δ fr (some (.v ds[k]))) with
      | exc cc => rw [qt] at hr5; cases hr5
      | bad => rw [qt] at hr5; cases hr5
      | ok b =>
        rw [qt] at hr5
        refine wpAny_mono (ht.run I8 R8 qt (Q := fun ok s9 => ok = b ∧ ∃ H9 G9, Inv (compCx X scope x fr C s3 (upd H2 Dl (.lst [])) fp) ([] ++ pinsAt fp s7.heap) (innerS σ fr (some xv)) H9 s9 ∧ Ext H8 G7 H9 G9) fun s9 H9 G9 I9 e9 => ⟨rfl, H9, G9, I9, e9⟩) (fun ok s9 ⟨hok9, H9, G9, I9, e9⟩ => ?_) fun _ _ z => z.elim
        subst hok9
        have gD9 := keepD e9 gD7 ⟨_, hD7⟩
        have hD9 := e9.hh _ _ hD7
        cases ok with
        | false => exact done I9 (e57.trans e9) gD9 hD9 (hL5.same (e7.gg.trans e9.gg)) (by omega) rest hr5 ha5
        | true =>
          dsimp only at hr5
          cases qe : fe (innerD δ fr (some (.v ds[k]))) with
          | exc cc => rw [qe] at hr5; cases hr5
          | bad => rw [qe] at hr5; cases hr5
          | ok ev =>
            rw [qe] at hr5
            dsimp only at hr5
            cases qr : compL (fun d => fe (innerD δ fr (some (.v d)))) (fun d => gt (innerD δ fr (some (.v d)))) (ds.drop (k + 1)) with
            | exc cc => rw [qr] at hr5; cases hr5
            | bad => rw [qr] at hr5; cases hr5
            | ok rest9 =>
              rw [qr] at hr5
              cases hr5
              have R9 := R8.mono e9
              refine wpAny_mono (he C s3 (upd H2 Dl (.lst [])) fp (fun _ => none) G7 _ s9 _ H9 (fun v H' => ∃ G', Ext H9 G9 H' G' ∧ Is X.K G' ev v) I9 ⟨G9, _, R9, ?_⟩) (fun yv s10 ⟨v10, H10, I10, r10, G10, e10, i10⟩ => ?_) fun _ _ z => z.elim
              · rw [qe]; exact fun v H' G' e i => ⟨G', e, i⟩
              have hD10 := e10.hh _ _ hD9
              have gD10 := keepD e10 gD9 ⟨_, hD9⟩
              have hl10 : ys.length < sizeLine := by
                have := hL5.length
                have h1 : (1000000 : Nat) < sizeLine := by decide
                omega
              refine wpAny_mono (mt_append (X := compCx X scope x fr C s3 (upd H2 Dl (.lst [])) fp) _ s10 _ H10 (.ref Dl) [v10] (.ref Dl) [yv] (fun _ H' => H' = upd H10 Dl (.lst (ys ++ [v10]))) I10 rfl (.cons r10 .nil) ⟨Dl, ys, v10, rfl, rfl, hD10, hl10, rfl⟩) (fun _ s11 ⟨_, H11, I11, _, hH11⟩ => ?_) fun _ _ z => z.elim
              subst hH11
              have e210 := (e57.trans e9).trans e10
              have e11 : Ext H2 G2 (upd H10 Dl (.lst (ys ++ [v10]))) G10 := ⟨fun b o q => by rw [upd_ne (ne_of_none q hDn)]; exact e210.hh b o q, e210.gg, fun b o q => by rw [upd_ne (ne_of_none q gD10)]; exact e210.gh b o q, e210.new⟩
              refine done I11 e11 gD10 upd_same ((hL5.same (e7.gg.trans (e9.gg.trans e10.gg))).append (IsL.one i10)) ?_ rest9 qr ?_
              · rw [List.length_append]; simp only [List.length_singleton]; omega
              · rw [ha5]; simp
    · have hkl : k = ds.length := by omega
      subst hkl
      refine wpAny_mono (T.done (compCx X scope x fr C s3 (upd H2 Dl (.lst [])) fp) rfl rfl rfl hcalm _ [] s5 _ H5 (fun _ _ => False) I5 (f5 fr5 nopins) st5 j2) (fun r s6 ⟨hr, I6⟩ => ?_) fun _ _ z => z.elim
      subst hr
      rw [List.drop_length] at hr5
      cases hr5
      rw [List.append_nil] at ha5
      subst ha5
      obtain ⟨m6, hn6, _⟩ := I6.loc
      have lt3 : ∀ b o, s3.heap.get? b = some o → b ≠ C := fun b o e => by rw [← hCd]; exact Nat.ne_of_lt (Heap.lt_size e)
      have hCn : H5 C = none := I6.free
      have I7 : Inv X pins σ H5 s6 := I3.call' (s' := s6) I6.os I6.base I6.hok I6.bare fun b hb => by
        obtain ⟨q0, q1, q2, q3, q4, q5⟩ := f3 b hb
        exact ⟨q3, q1, q4, q5⟩
      have cok : COk X pins H5 C := by
        refine ⟨Nat.le_trans I3.sz (Nat.le_of_eq hCd), ?_, fun y c hc => ?_, fun p hp => ?_, hCn⟩
        · obtain ⟨m3, hm3, _⟩ := I3.loc
          rw [← hCd]; exact Nat.ne_of_gt hm3.lt
        · obtain ⟨w, hc3⟩ := I3.cell y c hc
          obtain ⟨o, ho, _⟩ := hc3
          exact lt3 c o ho
        · exact lt3 p.1 p.2 (I3.pin p hp).1
      have gh5 := e5.gh
      refine fin _ C Dl m6 s6 H5 (upd G5 Dl (.lst ys)) _ hq I7 hn6 cok ?_ ⟨Dl, ys, rfl, .of upd_same, ?_, hL5.same (same_upd gD5 _)⟩
      · have e05 := e2.trans e5
        refine ⟨e05.hh, e05.gg.trans (same_upd gD5 _), fun b o q => ?_, fun b o q => ?_⟩
        · by_cases hb : b = Dl
          · subst hb; rw [upd_same] at q; cases q; exact hD5
          · rw [upd_ne hb] at q; exact gh5 b o q
        · by_cases hb : b = Dl
          · subst hb; exact .inr (e2.hh.free hDn)
          · rw [upd_ne hb] at q; exact e05.new b o q
      · have := hL5.length
        have h1 : (1000000 : Nat) < sizeLine := by decide
        omega
  exact codeAny_compStart_list loop (T.self X.A 0 s4 _ _ st4 loop)
theorem pd_comp {X : Cx} {B G₀ : Hp} {elt iter : Expr} {x : Str} {px : Pos} {ifs : List Expr} {scope sc : Scope} {N : List Str} {pos : Pos} {f : DS → Rs (List D)} {fe : DS → Rs D} {gt : DS → Rs Bool} (fr : List (Str × Nat)) (hok : compOk sc scope N x fr = true) (hsc : X.env.scope = sc) (hN : X.N = N) (hcalm : X.calm = true)
    (hi : PI X (.Name x px) iter (tI X B G₀ f)) (ht : Tst X scope x fr ifs gt) (he : ∀ C s₀ H₀ fp B' G', PE (compCx X scope x fr C s₀ H₀ fp) elt (tE (compCx X scope x fr C s₀ H₀ fp) B' G' fe))
    (hs : ∀ x, foldedSetIterable iter X.env x = pure x := by intro _; rfl) :
    PE X (.ListComp elt [⟨.Name x px, iter, ifs, 0⟩] scope pos) (tE X B G₀ fun δ => f δ >>= fun ds => bigR ds (compL (fun d => fe (innerD δ fr (some (.v d)))) (fun d => gt (innerD δ fr (some (.v d)))) ds)) := by
  intro pins s σ H Q I ⟨G, δ, R, hw⟩
  rw [eval_ListComp]
  refine comp_gen (use := none) fr hok hsc hN hcalm hi ht he hs I R hw fun d C Dl m s6 H5 G5 r hq I6 hn k e5 i5 => ?_
  exact ⟨m, hn, fun h7 sb7 => ⟨.ref Dl, H5, inv_offC I6 k sb7, rfl, hq _ H5 G5 e5 i5⟩⟩
theorem pds_compSet {X : Cx} {B G₀ : Hp} {elt iter : Expr} {x : Str} {px : Pos} {ifs : List Expr} {scope sc : Scope} {N : List Str} {pos : Pos} {f : DS → Rs (List D)} {fe : DS → Rs D} {gt : DS → Rs Bool} (i : Nat) {y : Str} {py spos : Pos} (hNd : X.N.Nodup) (fr : List (Str × Nat)) (hok : compOk sc scope N x fr = true) (hsc : X.env.scope = sc) (hN : X.N = N) (hcalm : X.calm = true)
    (hi : PI X (.Name x px) iter (tI X B G₀ f)) (ht : Tst X scope x fr ifs gt) (he : ∀ C s₀ H₀ fp B' G', PE (compCx X scope x fr C s₀ H₀ fp) elt (tE (compCx X scope x fr C s₀ H₀ fp) B' G' fe))
    (hsw : swapsWith (.ListComp elt [⟨.Name x px, iter, ifs, 0⟩] scope pos) (some (.Name y py)) spos.line X.env = pure true := by rfl)
    (hs : ∀ x, foldedSetIterable iter X.env x = pure x := by intro _; rfl) (hy : X.N[i]? = some y := by rfl) (hx : Loc X.env.scope y := by first | exact Or.inl rfl | exact Or.inr rfl)
    (hf : X.fn y = true ∨ X.env.scope.names.lookup y = some .local := by first | exact .inl rfl | exact .inr rfl | assumption) :
    PS X (.Assign [.Name y py] (.ListComp elt [⟨.Name x px, iter, ifs, 0⟩] scope pos) spos) (tS X B G₀ fun δ => ((f δ >>= fun ds => bigR ds (compL (fun d => fe (innerD δ fr (some (.v d)))) (fun d => gt (innerD δ fr (some (.v d)))) ds)) : Rs D).out δ fun d => .nx (δ.set i (some (.v d)))) := by
  intro pins s σ H D' I ⟨G, δ, R, hw⟩
  rw [exec_Assign_Name_used y py _ spos hsw]
  refine wpAny_bind (wpAny_standAt (wpAny_bind ?_))
  show wpAny (model X.prog X.w) X.A (comprehension (.ListComp elt [⟨.Name x px, iter, ifs, 0⟩] scope pos) scope X.env (firstIterPos [⟨.Name x px, iter, ifs, 0⟩] pos) (newList []) (firstAsync [⟨.Name x px, iter, ifs, 0⟩]) (firstIter [⟨.Name x px, iter, ifs, 0⟩] X.env) (some (assign (.Name y py) X.env)) >>= fun _ => pure ()) _ X.xe s
  refine wpAny_bind ?_
  refine comp_gen (use := some (assign (.Name y py) X.env)) (Pd := fun d => WS X B G₀ D' (.nx (δ.set i (some (.v d))))) fr hok hsc hN hcalm hi ht he hs I R ?_ fun d C Dl m s6 H5 G5 r hq I6 hn k e5 i5 => ?_
  · dsimp only at hw
    generalize (f δ >>= fun ds => bigR ds (compL (fun d => fe (innerD δ fr (some (.v d)))) (fun d => gt (innerD δ fr (some (.v d)))) ds)) = rr at hw ⊢
    cases rr with
    | ok d => exact hw
    | exc c => exact fun pins s' H' G' ev e I x => hw pins σ s' H' G' ev (R.mono e) I x
    | bad => exact hw.elim
  · show wpAny (model X.prog X.w) X.A (assign (.Name y py) X.env (.ref Dl)) _ X.xe s6
    refine wpAny_assign_Name (store_ok2 I6 hNd hy hx (v := .ref Dl) rfl (fun s7 I7 ⟨a, sb, ha⟩ => ?_) hf)
    have hCa : C ≠ a := by
      rcases ha with rfl | ha
      · exact k.b
      · exact (k.c y a ha).symm
    refine ⟨m, hn.at fun o q => (sb.2 C hCa).trans q, fun h7 sb7 => wpAny_pure (wpAny_pure ?_)⟩
    exact ⟨_, H5, inv_offC I7 ⟨k.a, k.b, k.c, k.d, k.e⟩ sb7, hq _ H5 G5 ((R.mono e5).set i i5)⟩
end M

set_option Elab.async false
set_option linter.all false
set_option maxRecDepth 100000
set_option maxHeartbeats 4000000
namespace M
open PySem PySem.Spec PyProof.Rows L2
set_option autoImplicit false

noncomputable def vsl (d : D) : Option Sl := some (.v d)
noncomputable def fin : Out → Rs D
  | .nx _ => .ok .non
  | .rt d => .ok d
  | _ => .bad
noncomputable def fnR (n m : Nat) (F : DS → Out) (ds : List D) : Rs D := if ds.length = n then fin (F (ds.map vsl ++ List.replicate m none)) else .bad
noncomputable def spD (K : PySem.W.Frag) (g : List D → Rs D) (n : Nat) : Sp := fun vs H Q _ => ∃ G ds, Same G H ∧ IsL K G ds vs ∧ ds.length = n ∧ (g ds).wp (fun _ => False) fun d => ∀ v H' G', Ext H G H' G' → Is K G' d v → Q v H'

theorem rel_start {X : Cx} {H G : Hp} {ds : List D} {vs : List V} (gh : Same G H) (i : IsL X.K G ds vs) (m : Nat) : Rel X H G (vs.map some ++ List.replicate m none) H G (ds.map vsl ++ List.replicate m none) := by
  have hl := i.length
  have key : ∀ (j : Nat) (e : Sl), (ds.map vsl ++ List.replicate m none)[j]? = some (some e) → ∃ d, ds[j]? = some d ∧ e = .v d := fun j e q => by
    by_cases hj : j < ds.length
    · rw [List.getElem?_append_left (by simpa using hj), List.getElem?_map, List.getElem?_eq_getElem hj] at q
      cases q
      exact ⟨_, List.getElem?_eq_getElem hj, rfl⟩
    · rw [List.getElem?_append_right (by simpa using Nat.not_lt.mp hj), List.getElem?_replicate] at q
      split at q <;> cases q
  refine ⟨Ext.refl gh, by simp [hl], fun j d q => ?_, fun j kA es q => ?_, fun j k kB kC es fs a q _ _ _ => ?_⟩
  · obtain ⟨d', h1, h2⟩ := key j _ q
    cases h2
    obtain ⟨v, e1, e2⟩ := i.get h1
    refine ⟨v, ?_, e2⟩
    have hj : j < vs.length := (List.getElem?_eq_some_iff.mp e1).1
    rw [List.getElem?_append_left (by simpa using hj), List.getElem?_map, e1]; rfl
  · obtain ⟨d', h1, h2⟩ := key j _ q; cases h2
  · obtain ⟨d', h1, h2⟩ := key j _ q; cases h2

structure Fn (P : Program) (w : World) (K : PySem.W.Frag) (mg : Str → Option Value) (base : Heap) (x : Str) (k n : Nat) (g : List D → Rs D) : Prop where
  ex : ∃ (f : Addr) (fd : FuncData) (ps : List Str), FnOk P w K mg base CX0 k f fd ps (spD K g n) ∧ Binds K fd ps [] ∧ mg x = some (.ref f) ∧ PySem.W.keepIn K (.ref f) = true
  len : ∀ ds, ds.length ≠ n → g ds = .bad
  ne : ∀ ds c, g ds ≠ .exc c

section
variable {P : Program} {w : World} {K : PySem.W.Frag} {mg : Str → Option Value} {base : Heap}
theorem fnR_len (n m : Nat) (F : DS → Out) : ∀ ds : List D, ds.length ≠ n → fnR n m F ds = .bad := fun ds h => by unfold fnR; rw [if_neg h]
theorem fnR_ne (n m : Nat) (F : DS → Out) : ∀ (ds : List D) (c : Str), fnR n m F ds ≠ .exc c := fun ds c h => by
  unfold fnR at h
  split at h
  · unfold fin at h
    split at h <;> cases h
  · cases h
theorem def_fn {x qual : Str} {st : Stmt} {f : Addr} {fd : FuncData} {N ps : List Str} {k m : Nat} {Fb : DS → Out} (F : Fun K x qual st f fd) (S : FnScope N ps (defScope st)) (hm : N.length - ps.length = m)
    (hbody : ∀ (cdv : Value) (A : Around) (outer : List Env) (s : Shared) (H : Hp) (E : XK) (G₀ : Hp), Room k (A.deeper (envOfC qual (defScope st) s.heap.objs.size f cdv)) →
      PSs (cxOf CX0 P w K mg base N qual (defScope st) f cdv A outer s H E).nox (defBody st) (tS (cxOf CX0 P w K mg base N qual (defScope st) f cdv A outer s H E).nox H G₀ Fb)) : FnOk P w K mg base CX0 (k + 1) f fd ps (spD K (fnR ps.length m Fb) ps.length) := by
  refine F.ok S (fun vs H Q E ⟨G, ds, gh, i, hl, _⟩ => by rw [i.length, hl]) fun cdv A outer s H vs Q E hr ⟨G, ds, gh, i, hl, hw⟩ => ?_
  refine ⟨_, hbody cdv A outer s H E G hr, G, ds.map vsl ++ List.replicate m none, ?_, ?_⟩
  · have := rel_start (X := (cxOf CX0 P w K mg base N qual (defScope st) f cdv A outer s H E).nox) gh i m
    unfold L2.start
    rw [i.length, hl, hm]
    exact this
  · unfold fnR at hw
    rw [if_pos hl] at hw
    cases q : Fb (ds.map vsl ++ List.replicate m none) with
    | nx δ => rw [q] at hw; exact fun σ H' G' R => hw .non H' G' R.ext rfl
    | rt d => rw [q] at hw; exact fun v H' G' e i => hw v H' G' e i
    | bk δ => rw [q] at hw; exact hw.elim
    | ct δ => rw [q] at hw; exact hw.elim
    | exc c δ => rw [q] at hw; exact hw.elim
    | bad => rw [q] at hw; exact hw.elim
theorem def_ok {x qual : Str} {st : Stmt} {f : Addr} {fd : FuncData} {N ps : List Str} {k m : Nat} {Fb : DS → Out} (F : Fun K x qual st f fd) (S : FnScope N ps (defScope st)) (hm : N.length - ps.length = m)
    (hb : ∀ (kV doc pm : Value) (an : Option Addr) (cdv ct : Value) (us : List Value), us.length = ps.length → bindArgs (PySem.W.fnOf x qual (defArgs st) (defBody st) (defScope st) .none kV doc pm an cdv ct) ⟨us, []⟩ = pure (ps.zip us))
    (hx : mg x = some (.ref f))
    (hbody : ∀ (cdv : Value) (A : Around) (outer : List Env) (s : Shared) (H : Hp) (E : XK) (G₀ : Hp), Room k (A.deeper (envOfC qual (defScope st) s.heap.objs.size f cdv)) →
      PSs (cxOf CX0 P w K mg base N qual (defScope st) f cdv A outer s H E).nox (defBody st) (tS (cxOf CX0 P w K mg base N qual (defScope st) f cdv A outer s H E).nox H G₀ Fb)) : Fn P w K mg base x (k + 1) ps.length (fnR ps.length m Fb) :=
  ⟨⟨f, fd, ps, def_fn F S hm hbody, F.binds hb, hx, F.kp⟩, fnR_len _ _ _, fnR_ne _ _ _⟩
noncomputable def spLaw (K : PySem.W.Frag) : Sp := fun vs H Q _ => ∃ (a : Addr) (ns : List Int), vs = [.ref a] ∧ SqL K H a (ns.map V.int) ∧ ns.length ≤ 63 ∧ ∀ H', Q (.bl true) H'
theorem law_fn {f : Addr} {fd : FuncData} {ps : List Str} {k : Nat} {g : List D → Rs D} (h : FnOk P w K mg base CX0 k f fd ps (spD K g 1)) (hg : ∀ ns : List Int, ns.length ≤ 63 → g [.lst (ns.map D.int)] = .ok (.bl true)) : FnOk P w K mg base CX0 k f fd ps (spLaw K) := by
  refine h.imp fun vs H Q E ⟨a, ns, e, hS, hl, q⟩ => ?_
  subst e
  refine ⟨H, [.lst (ns.map D.int)], Same.refl _, ⟨.ref a, [], rfl, ⟨a, ns.map V.int, rfl, hS, ?_, isL_ints ns⟩, rfl⟩, rfl, ?_⟩
  · rw [List.length_map]; exact Nat.le_trans hl (by decide)
  · rw [hg ns hl]
    intro v H' G' e i
    cases (show v = .bl true from i)
    exact q H'
theorem walk {l : PySem.W.OpenLaw} {q : Program} {loose : List Str} {XP : (Str → Option Value) → Heap → Prop} {YP : World → Heap → Prop} {d : DefRec} {K : Params → PySem.W.Frag} {k : Nat} {x : Str} (hn : l.most = some 63) (hk : Room k callerA) (hdf : d.params.defaults = [])
    (hY : ∀ (w : World) (h : Heap), YP w h → (K w.params).In h)
    (F : ∀ (w : World) (mg : Str → Option Value) (fa : Addr) (h : Heap), (K w.params).In h → h.Ns mainGlobals mg → mg d.name = some (.ref fa) →
      ∃ fd : FuncData, (∀ (s : Shared) (u : Value), BindsTo s fd ⟨[u], []⟩ [(x, u)]) ∧ ∀ base : Heap, (K w.params).In base → base.Ns mainGlobals mg → FnOk l.prog w (K w.params) mg base CX0 k fa fd [x] (spLaw (K w.params))) :
    PySem.W.WalkO q loose XP YP l.row.toRowW d [] (fun f vs => PySem.call f vs) :=
  L2.walk_of (n := 63) (k := k) (x := x) (CX := fun _ => CX0) (sp := fun w => spLaw (K w.params)) hn (by decide) hdf hk hY F (fun _ _ a ns hl _ hS => ⟨a, ns, rfl, hS, hl, fun _ => rfl⟩) fun _ _ _ _ _ z => z
end
section
variable {X : Cx} {B G₀ : Hp} {x : Str} {k n : Nat} {g : List D → Rs D} {e : Expr} {es : List Expr} {fr : DS → Rs (List D)} {p pos : Pos}
theorem pd_call (F : Fn X.prog X.w X.K X.mg X.base x k n g) (hr : Room k X.A) (ha : PA X (e :: es) (tAs X B G₀ fr)) (hg : Gl X x := by rfl) (hdb : (x == ("__debug__" : Str)) = false := by decide)
    (he : starEach (e :: es) X.env = (false, eval e X.env) :: starEach es X.env := by rfl) (hpl : (backTo pos (starEach es X.env)).any (·.1) = false := by rfl) :
    PE X (.Call (.Name x p) (e :: es) [] pos) (tE X B G₀ fun δ => fr δ >>= g) := by
  obtain ⟨⟨f, fd, ps, hF, hb, hm, hk⟩, hlen, hne⟩ := F
  refine pd_of (pe_call hF hr hg hm hk hb .nil pass0 ha hdb he hpl) fun σ H G δ Q R hw => ?_
  refine ⟨G, δ, R, ?_⟩
  unfold W at hw
  rw [wp_bind] at hw
  refine Rs.wp.mono hw (fun _ x => x) fun ds q vs H1 G1 e1 i1 => ?_
  by_cases hl : ds.length = n
  · refine ⟨G1, ds, e1.gh, by rw [List.append_nil]; exact i1, hl, ?_⟩
    cases hgd : g ds with
    | ok d => rw [hgd] at q; exact fun v H' G' e' i' => q v H' G' (e1.trans e') i'
    | exc c => rw [hgd] at q; exact (hne ds c hgd).elim
    | bad => rw [hgd] at q; exact q.elim
  · rw [hlen ds hl] at q; exact q.elim
end
end M

set_option Elab.async false
set_option linter.all false
set_option maxRecDepth 100000
set_option maxHeartbeats 4000000
namespace M
open PySem PySem.Spec PyProof.Rows L2
set_option autoImplicit false

noncomputable abbrev FE := DS → Rs D
noncomputable abbrev FT := DS → Rs Bool
noncomputable abbrev FA := DS → Rs (List D)
noncomputable abbrev FS := DS → Out
noncomputable def bin2 (g : D → D → Rs D) (fa fb : FE) : FE := fun δ => fa δ >>= fun x => fb δ >>= fun y => g x y
noncomputable def cmpT (g : D → D → Rs D) (fa fb : FE) : FT := fun δ => fa δ >>= fun x => fb δ >>= fun y => g x y >>= fun d => truR d
noncomputable def valT (fa : FE) : FT := fun δ => fa δ >>= fun d => truR d
noncomputable def notT (ga : FT) : FT := fun δ => ga δ >>= fun b => .ok (!b)
noncomputable def andT (ga gb : FT) : FT := fun δ => ga δ >>= fun c => if c = true then gb δ else .ok false
noncomputable def orT (ga gb : FT) : FT := fun δ => ga δ >>= fun c => if c = true then .ok true else gb δ
noncomputable def andV (fa fb : FE) : FE := fun δ => fa δ >>= fun x => truR x >>= fun k => if k = true then fb δ else .ok x
noncomputable def orV (fa fb : FE) : FE := fun δ => fa δ >>= fun x => truR x >>= fun k => if k = true then .ok x else fb δ
noncomputable def notV (fa : FE) : FE := fun δ => fa δ >>= fun x => truR x >>= fun k => .ok (.bl (!k))
noncomputable def negR : D → Rs D
  | .int i => .ok (.int (-i))
  | _ => .bad
noncomputable def negV (fa : FE) : FE := fun δ => fa δ >>= negR
noncomputable def ifV (gc : FT) (fa fb : FE) : FE := fun δ => gc δ >>= fun k => if k = true then fa δ else fb δ
noncomputable def chainR (z : D) (r : Rs D) : Rs D := match z with
  | .bl true => r
  | .bl false => .ok (.bl false)
  | _ => .bad
noncomputable def chainV (g g' : D → D → Rs D) (fa fb fc : FE) : FE := fun δ => fa δ >>= fun x => fb δ >>= fun y => g x y >>= fun z => chainR z (fc δ >>= fun w => g' y w)
noncomputable def a0 : FA := fun _ => .ok []
noncomputable def aC (fe : FE) (fr : FA) : FA := fun δ => fe δ >>= fun d => fr δ >>= fun ds => .ok (d :: ds)
noncomputable def appF (g : List D → Rs D) (fr : FA) : FE := fun δ => fr δ >>= g
noncomputable def isiF (T : String) (fe : FE) : FE := fun δ => fe δ >>= fun d => isiR T d
noncomputable def itF (fe : FE) : FA := fun δ => fe δ >>= itR
noncomputable def rng1R : List D → Rs (List D)
  | [d] => rngR [d]
  | _ => .bad
noncomputable def rng2R : List D → Rs (List D)
  | [.int i, .int j] => rngR [.int i, .int j]
  | _ => .bad
noncomputable def rng1 (fr : FA) : FA := fun δ => fr δ >>= rng1R
noncomputable def rng2 (fr : FA) : FA := fun δ => fr δ >>= rng2R
noncomputable def tt : FT := fun _ => .ok true
noncomputable def compF (fr : List (Str × Nat)) (f : FA) (fe : FE) (gt : FT) : FE := fun δ => f δ >>= fun ds => bigR ds (compL (fun d => fe (innerD δ fr (some (.v d)))) (fun d => gt (innerD δ fr (some (.v d)))) ds)
noncomputable def exprS (fe : FE) : FS := fun δ => (fe δ).out δ fun _ => .nx δ
noncomputable def retS (fe : FE) : FS := fun δ => (fe δ).out δ fun d => .rt d
noncomputable def retN : FS := fun _ => .rt .non
noncomputable def ifS (gc : FT) (F1 F2 : FS) : FS := fun δ => (gc δ).out δ fun k => if k = true then F1 δ else F2 δ
noncomputable def setS (i : Nat) (fe : FE) : FS := fun δ => (fe δ).out δ fun d => .nx (δ.set i (some (.v d)))
noncomputable def augS (i : Nat) (g : D → D → Rs D) (fe : FE) : FS := fun δ => (getV δ i >>= fun d => fe δ >>= fun y => g d y).out δ fun d => .nx (δ.set i (some (.v d)))
noncomputable def forS (f : FA) (tg : D → DS → Option DS) (F : FS) : FS := fun δ => (f δ).out δ fun ds => forO tg F ds δ
noncomputable def whileS (n : Nat) (gc : FT) (F : FS) : FS := fun δ => whileO gc F n δ
noncomputable def badS : FS := fun _ => .bad
noncomputable abbrev ltR : D → D → Rs D := cmpR fun i j => decide (i < j)
noncomputable abbrev leR : D → D → Rs D := cmpR fun i j => decide (i ≤ j)
noncomputable abbrev gtR : D → D → Rs D := cmpR fun i j => decide (j < i)
noncomputable abbrev geR : D → D → Rs D := cmpR fun i j => decide (j ≤ i)
noncomputable def tgN (i : Nat) (d : D) (δ : DS) : Option DS := some (δ.set i (some (.v d)))

section
variable {X : Cx} {B G₀ : Hp} {a b c e : Expr} {es rest : List Expr} {fa fb fc fe : FE} {ga gb gc : FT} {fr : FA} {F F1 F2 : FS} {pos p : Pos} {st : Stmt} {sts sts' : List Stmt} {x : Str}
theorem q_gint {i : Int} (h : ∃ t, X.mg x = some (.int i t)) (hg : Gl X x := by rfl) (hd : (x == ("__debug__" : Str)) = false := by decide) : PE X (.Name x pos) (tE X B G₀ (cD (.int i))) := by
  obtain ⟨t, h⟩ := h; exact pd_gint h hg hd
theorem q_gstr {z : Str} (h : ∃ t, X.mg x = some (.str z t)) (hg : Gl X x := by rfl) (hd : (x == ("__debug__" : Str)) = false := by decide) (hx : z.length ≤ sizeLine := by decide +kernel) (ho : PyData.strOk z = true := by decide +kernel) : PE X (.Name x pos) (tE X B G₀ (cD (.str z))) := by
  obtain ⟨t, h⟩ := h
  exact pd_of (pe_glob (v := .str z) hg h ⟨t, rfl⟩ hd) fun σ H G δ Q R hw => hw _ H G (Ext.refl R.ext.gh) ⟨rfl, hx, ho⟩
theorem q_bin {op : Operator} {g : D → D → Rs D} (ho : OpD X (binaryOp op) g) (ha : PE X a (tE X B G₀ fa)) (hb : PE X b (tE X B G₀ fb)) : PE X (.BinOp a op b pos) (tE X B G₀ (bin2 g fa fb)) := pd_bin ho ha hb
theorem q_cmp {op : CmpOp} {g : D → D → Rs D} (ho : OpD X (compareOp op) g) (ha : PE X a (tE X B G₀ fa)) (hb : PE X b (tE X B G₀ fb)) (hm : behindInMarks op b = false := by first | exact nobehind _ (by decide) (by decide) | rfl) :
    PE X (.Compare a [op] [b] pos) (tE X B G₀ (bin2 g fa fb)) := pd_cmp ho ha hb hm
theorem q_tcmp {op : CmpOp} {g : D → D → Rs D} (ho : OpD X (compareOp op) g) (ha : PE X a (tE X B G₀ fa)) (hb : PE X b (tE X B G₀ fb)) (hm : behindInMarks op b = false := by first | exact nobehind _ (by decide) (by decide) | rfl) :
    PT X (.Compare a [op] [b] pos) (tT X B G₀ (cmpT g fa fb)) := pdt_cmp ho ha hb hm
theorem q_tval (ha : PE X a (tE X B G₀ fa)) (he : ∀ whole, isTrue a X.env whole = (do let v ← whole; standAt a.pos; holding [v] (truthy v)) := by intro _; rfl) : PT X a (tT X B G₀ (valT fa)) := pdt_val ha he
theorem q_tnot (ha : PT X a (tT X B G₀ ga)) : PT X (.UnaryOp .Not a pos) (tT X B G₀ (notT ga)) := pdt_not ha
theorem q_wand (ha : PT X a (tT X B G₀ ga)) (hb : PW X (.BoolOp .And (b :: rest) pos) (tT X B G₀ gb)) : PW X (.BoolOp .And (a :: b :: rest) pos) (tT X B G₀ (andT ga gb)) := pdw_and ha hb
theorem q_wor (ha : PT X a (tT X B G₀ ga)) (hb : PW X (.BoolOp .Or (b :: rest) pos) (tT X B G₀ gb)) : PW X (.BoolOp .Or (a :: b :: rest) pos) (tT X B G₀ (orT ga gb)) := pdw_or ha hb
theorem q_w1a (ha : PT X a (tT X B G₀ ga)) : PW X (.BoolOp .And [a] pos) (tT X B G₀ ga) := pw_one (.inl rfl) ha
theorem q_w1o (ha : PT X a (tT X B G₀ ga)) : PW X (.BoolOp .Or [a] pos) (tT X B G₀ ga) := pw_one (.inr rfl) ha
theorem q_and (ha : PE X a (tE X B G₀ fa)) (hb : PE X (.BoolOp .And (b :: rest) pos) (tE X B G₀ fb)) : PE X (.BoolOp .And (a :: b :: rest) pos) (tE X B G₀ (andV fa fb)) := pd_and ha hb
theorem q_not (ha : PE X a (tE X B G₀ fa)) : PE X (.UnaryOp .Not a pos) (tE X B G₀ (notV fa)) := pd_not ha
theorem q_neg (ha : PE X a (tE X B G₀ fa)) : PE X (.UnaryOp .USub a pos) (tE X B G₀ (negV fa)) := by
  refine pd_of (pd_neg ha) fun σ H G δ Q R hw => ⟨G, δ, R, ?_⟩
  have e : (fa δ >>= fun x => match x with | .int i => .ok (.int (-i)) | _ => .bad) = negV fa δ := by
    unfold negV
    cases fa δ with
    | ok d => cases d <;> rfl
    | exc c => rfl
    | bad => rfl
  exact Eq.mpr (congrArg (W X Q σ H G) e) hw
theorem q_chain {op op' : CmpOp} {g g' : D → D → Rs D} (ho : OpD X (compareOp op) g) (ho' : OpD X (compareOp op') g') (ha : PE X a (tE X B G₀ fa)) (hb : PE X b (tE X B G₀ fb)) (hc : PE X c (tE X B G₀ fc))
    (hm : lastMarks [op, op'] [b, c] = false := by with_unfolding_all rfl) : PE X (.Compare a [op, op'] [b, c] pos) (tE X B G₀ (chainV g g' fa fb fc)) := by
  refine pd_of (pd_chain ho ho' ha hb hc hm) fun σ H G δ Q R hw => ⟨G, δ, R, ?_⟩
  have e : ∀ z (r : Rs D), (match z with | .bl true => r | .bl false => .ok (.bl false) | _ => .bad : Rs D) = chainR z r := fun z r => by
    unfold chainR; rfl
  unfold chainV at hw
  simp only [e]; exact hw
theorem q_a0 : PA X [] (tAs X B G₀ a0) := pda_nil
theorem q_aC (ha : PE X e (tE X B G₀ fe)) (hr : PA X es (tAs X B G₀ fr)) (hs : starEach (e :: es) X.env = (false, eval e X.env) :: starEach es X.env := by rfl) : PA X (e :: es) (tAs X B G₀ (aC fe fr)) := pda_cons ha hr hs
theorem q_tup {x1} (h : PA X es (tAs X B G₀ fr)) : PE X (.Tuple es x1 pos) (tE X B G₀ (appF tupR fr)) := pd_tup h
theorem q_lst (h : PA X es (tAs X B G₀ fr)) : PE X (.List es pos) (tE X B G₀ (appF lstR fr)) := pd_lst h
theorem q_ix (ha : PE X a (tE X B G₀ fa)) (hb : PE X b (tE X B G₀ fb)) (hs : PlainIx b := by intro _ _; rfl) : PE X (.Subscript a b pos) (tE X B G₀ (bin2 idxR fa fb)) := pd_ix ha hb hs
theorem q_blt {id : String} {g : List D → Rs D} (hc : CallD X (.builtin id) g) (hm : X.mg x = none) (hv : bootBuiltins x = some (.builtin id)) (ha : PA X (e :: es) (tAs X B G₀ fr)) (hg : Gl X x := by rfl) (hn : x ≠ "__name__" := by decide) (hdb : (x == ("__debug__" : Str)) = false := by decide)
    (he : starEach (e :: es) X.env = (false, eval e X.env) :: starEach es X.env := by rfl) (hpl : (backTo pos (starEach es X.env)).any (·.1) = false := by rfl) : PE X (.Call (.Name x p) (e :: es) [] pos) (tE X B G₀ (appF g fr)) := pd_callB hc hm hv ha hg hn hdb he hpl
theorem q_ty {T : String} {g : List D → Rs D} (hc : CallD X (.type T) g) (hm : X.mg x = none) (hv : bootBuiltins x = some (.type T)) (ha : PA X (e :: es) (tAs X B G₀ fr)) (hg : Gl X x := by rfl) (hn : x ≠ "__name__" := by decide) (hdb : (x == ("__debug__" : Str)) = false := by decide)
    (he : starEach (e :: es) X.env = (false, eval e X.env) :: starEach es X.env := by rfl) (hpl : (backTo pos (starEach es X.env)).any (·.1) = false := by rfl) : PE X (.Call (.Name x p) (e :: es) [] pos) (tE X B G₀ (appF g fr)) := pd_callTy hc hm hv ha hg hn hdb he hpl
theorem q_call {k n : Nat} {g : List D → Rs D} (F : Fn X.prog X.w X.K X.mg X.base x k n g) (hr : Room k X.A) (ha : PA X (e :: es) (tAs X B G₀ fr)) (hg : Gl X x := by rfl) (hdb : (x == ("__debug__" : Str)) = false := by decide)
    (he : starEach (e :: es) X.env = (false, eval e X.env) :: starEach es X.env := by rfl) (hpl : (backTo pos (starEach es X.env)).any (·.1) = false := by rfl) : PE X (.Call (.Name x p) (e :: es) [] pos) (tE X B G₀ (appF g fr)) := pd_call F hr ha hg hdb he hpl
theorem q_isi {y : Str} {p2 : Pos} {T : String} (hT : IsiOk X.K T) (hm : X.mg "isinstance" = none) (hm2 : X.mg y = none) (hv2 : bootBuiltins y = some (.type T)) (ha : PE X e (tE X B G₀ fe)) (hg : Gl X "isinstance" := by rfl) (hg2 : Gl X y := by rfl)
    (hn2 : y ≠ "__name__" := by decide) (hd2 : (y == ("__debug__" : Str)) = false := by decide) (hs1 : starEach [e, .Name y p2] X.env = (false, eval e X.env) :: starEach [.Name y p2] X.env := by rfl) :
    PE X (.Call (.Name "isinstance" p) [e, .Name y p2] [] pos) (tE X B G₀ (isiF T fe)) := pd_isi hT hm hm2 hv2 ha hg hg2 hn2 hd2 hs1
theorem q_it {tg : Expr} (hl : PE X e (tE X B G₀ fe)) : PI X tg e (tI X B G₀ (itF fe)) := pdi_any hl
theorem tI_imp {tg iter : Expr} {f f' : FA} (h : PI X tg iter (tI X B G₀ f)) (e : ∀ δ, f δ = f' δ) : PI X tg iter (tI X B G₀ f') := by
  have : f = f' := funext e
  rw [← this]; exact h
theorem q_rng1 {tg : Expr} (hm : X.mg "range" = none) (ha : PA X [a] (tAs X B G₀ fr)) (hg : Gl X "range" := by rfl) (hs : starEach [a] X.env = [(false, eval a X.env)] := by rfl) : PI X tg (.Call (.Name "range" p) [a] [] pos) (tI X B G₀ (rng1 fr)) :=
  tI_imp (pdi_range1 hm ha hg hs) fun δ => by unfold rng1; cases fr δ with | ok ds => (cases ds with | nil => rfl | cons d r => (cases r <;> rfl)) | exc c => rfl | bad => rfl
theorem q_comp {elt iter : Expr} {px : Pos} {ifs : List Expr} {scope sc : Scope} {N : List Str} {f : FA} (fr : List (Str × Nat)) (hok : compOk sc scope N x fr = true) (hsc : X.env.scope = sc) (hN : X.N = N) (hcalm : X.calm = true)
    (hi : PI X (.Name x px) iter (tI X B G₀ f)) (ht : Tst X scope x fr ifs gc) (he : ∀ C s₀ H₀ fp B' G', PE (compCx X scope x fr C s₀ H₀ fp) elt (tE (compCx X scope x fr C s₀ H₀ fp) B' G' fe))
    (hs : ∀ x, foldedSetIterable iter X.env x = pure x := by intro _; rfl) :
    PE X (.ListComp elt [⟨.Name x px, iter, ifs, 0⟩] scope pos) (tE X B G₀ (compF fr f fe gc)) := pd_comp fr hok hsc hN hcalm hi ht he hs
theorem q_compSet {elt iter : Expr} {px : Pos} {ifs : List Expr} {scope sc : Scope} {N : List Str} {f : FA} (i : Nat) {y : Str} {py spos : Pos} (hNd : X.N.Nodup) (fr : List (Str × Nat)) (hok : compOk sc scope N x fr = true) (hsc : X.env.scope = sc) (hN : X.N = N) (hcalm : X.calm = true)
    (hi : PI X (.Name x px) iter (tI X B G₀ f)) (ht : Tst X scope x fr ifs gc) (he : ∀ C s₀ H₀ fp B' G', PE (compCx X scope x fr C s₀ H₀ fp) elt (tE (compCx X scope x fr C s₀ H₀ fp) B' G' fe))
    (hsw : swapsWith (.ListComp elt [⟨.Name x px, iter, ifs, 0⟩] scope pos) (some (.Name y py)) spos.line X.env = pure true := by rfl)
    (hs : ∀ x, foldedSetIterable iter X.env x = pure x := by intro _; rfl) (hy : X.N[i]? = some y := by rfl) (hx : Loc X.env.scope y := by first | exact Or.inl rfl | exact Or.inr rfl)
    (hf : X.fn y = true ∨ X.env.scope.names.lookup y = some .local := by first | exact .inl rfl | exact .inr rfl | assumption) :
    PS X (.Assign [.Name y py] (.ListComp elt [⟨.Name x px, iter, ifs, 0⟩] scope pos) spos) (tS X B G₀ (setS i (compF fr f fe gc))) := pds_compSet i hNd fr hok hsc hN hcalm hi ht he hsw hs hy hx hf
theorem q_ret (he : PE X e (tE X B G₀ fe)) : PS X (.Return (some e) pos) (tS X B G₀ (retS fe)) := pds_ret he
theorem q_ifS (hc : PT X c (tT X B G₀ gc)) (ha : PSs X sts (tS X B G₀ F1)) (hb : PSs X sts' (tS X B G₀ F2)) : PS X (.If c sts sts' pos) (tS X B G₀ (ifS gc F1 F2)) := pds_if hc ha hb
theorem q_set (i : Nat) {pos' : Pos} (hN : X.N.Nodup) (he : PE X e (tE X B G₀ fe)) (hi : X.N[i]? = some x := by rfl) (hx : Loc X.env.scope x := by first | exact Or.inl rfl | exact Or.inr rfl) (hs : swapsWith e (some (.Name x pos')) pos.line X.env = pure false := by rfl)
    (hf : X.fn x = true ∨ X.env.scope.names.lookup x = some .local := by first | exact .inl rfl | exact .inr rfl | assumption) :
    PS X (.Assign [.Name x pos'] e pos) (tS X B G₀ (setS i fe)) := pds_set i hN he hi hx hs hf
theorem q_for {tgt iter : Expr} {g : TG} {tg : D → DS → Option DS} {f : FA} (hp : PassesOwn (model X.prog X.w) X.A X.env X.xe) (hc : X.calm = true) (hi : PI X tgt iter (tI X B G₀ f)) (hg : PG X tgt g) (ht : TgD X B g tg) (hb : ∀ G₀, PSs X sts (tS X B G₀ F))
    (hs : ∀ x, foldedSetIterable iter X.env x = pure x := by intro _; rfl) : PS X (.For tgt iter sts [] pos) (tS X B G₀ (forS f tg F)) := pds_for hp hc hi hg ht hb hs
theorem q_tgN (i : Nat) : TgD X B (gName i) (tgN i) := tg_name i
end
end M

set_option Elab.async false
set_option linter.all false
set_option maxRecDepth 100000
set_option maxHeartbeats 4000000
namespace M
open PySem PySem.Spec PyProof.Rows L2
set_option autoImplicit false

section
variable (g g' : D → D → Rs D) (fa fb fc fe : FE) (ga gb gc : FT) (fr : FA) (F F1 F2 : FS) (δ : DS)
@[simp] theorem s_bin2 : bin2 g fa fb δ = (fa δ >>= fun x => fb δ >>= fun y => g x y) := nodef rfl
@[simp] theorem s_cmpT : cmpT g fa fb δ = (fa δ >>= fun x => fb δ >>= fun y => g x y >>= fun d => truR d) := nodef rfl
@[simp] theorem s_valT : valT fa δ = (fa δ >>= fun d => truR d) := nodef rfl
@[simp] theorem s_notT : notT ga δ = (ga δ >>= fun b => .ok (!b)) := nodef rfl
@[simp] theorem s_andT : andT ga gb δ = (ga δ >>= fun c => if c = true then gb δ else .ok false) := nodef rfl
@[simp] theorem s_orT : orT ga gb δ = (ga δ >>= fun c => if c = true then .ok true else gb δ) := nodef rfl
@[simp] theorem s_andV : andV fa fb δ = (fa δ >>= fun x => truR x >>= fun k => if k = true then fb δ else .ok x) := nodef rfl
@[simp] theorem s_orV : orV fa fb δ = (fa δ >>= fun x => truR x >>= fun k => if k = true then .ok x else fb δ) := nodef rfl
@[simp] theorem s_notV : notV fa δ = (fa δ >>= fun x => truR x >>= fun k => .ok (.bl (!k))) := nodef rfl
@[simp] theorem s_negV : negV fa δ = (fa δ >>= negR) := nodef rfl
@[simp] theorem s_negR (i : Int) : negR (.int i) = .ok (.int (-i)) := nodef rfl
@[simp] theorem s_ifV : ifV gc fa fb δ = (gc δ >>= fun k => if k = true then fa δ else fb δ) := nodef rfl
@[simp] theorem s_chainV : chainV g g' fa fb fc δ = (fa δ >>= fun x => fb δ >>= fun y => g x y >>= fun z => chainR z (fc δ >>= fun w => g' y w)) := nodef rfl
@[simp] theorem s_chainR (b : Bool) (r : Rs D) : chainR (.bl b) r = if b = true then r else .ok (.bl false) := by cases b <;> rfl
@[simp] theorem s_a0 : a0 δ = .ok [] := nodef rfl
@[simp] theorem s_aC : aC fe fr δ = (fe δ >>= fun d => fr δ >>= fun ds => .ok (d :: ds)) := nodef rfl
@[simp] theorem s_appF (h : List D → Rs D) : appF h fr δ = (fr δ >>= h) := nodef rfl
@[simp] theorem s_isiF (T : String) : isiF T fe δ = (fe δ >>= fun d => isiR T d) := nodef rfl
@[simp] theorem isiR_int (T : String) (i : Int) : isiR T (.int i) = .ok (.bl (isiN (tyN (.int i)) T)) := nodef rfl
@[simp] theorem isiR_str (T : String) (i : Str) : isiR T (.str i) = .ok (.bl (isiN (tyN (.str i)) T)) := nodef rfl
@[simp] theorem isiR_tup (T : String) (i : List D) : isiR T (.tup i) = .ok (.bl (isiN (tyN (.tup i)) T)) := nodef rfl
@[simp] theorem isiR_lst (T : String) (i : List D) : isiR T (.lst i) = .ok (.bl (isiN (tyN (.lst i)) T)) := nodef rfl
@[simp] theorem isiR_bl (T : String) (i : Bool) : isiR T (.bl i) = .ok (.bl (isiN (tyN (.bl i)) T)) := nodef rfl
@[simp] theorem isiR_non (T : String) : isiR T .non = .ok (.bl (isiN (tyN .non) T)) := nodef rfl
@[simp] theorem s_itF : itF fe δ = (fe δ >>= itR) := nodef rfl
@[simp] theorem s_rng1 : rng1 fr δ = (fr δ >>= rng1R) := nodef rfl
@[simp] theorem s_rng2 : rng2 fr δ = (fr δ >>= rng2R) := nodef rfl
@[simp] theorem s_tt : tt δ = .ok true := nodef rfl
@[simp] theorem s_compF (f : FA) (fn : List (Str × Nat)) : compF fn f fe gc δ = (f δ >>= fun ds => bigR ds (compL (fun d => fe (innerD δ fn (some (.v d)))) (fun d => gc (innerD δ fn (some (.v d)))) ds)) := nodef rfl
@[simp] theorem s_exprS : exprS fe δ = (fe δ).out δ fun _ => .nx δ := nodef rfl
@[simp] theorem s_retS : retS fe δ = (fe δ).out δ fun d => .rt d := nodef rfl
@[simp] theorem s_retN : retN δ = .rt .non := nodef rfl
@[simp] theorem s_ifS : ifS gc F1 F2 δ = (gc δ).out δ fun k => if k = true then F1 δ else F2 δ := nodef rfl
@[simp] theorem s_setS (i : Nat) : setS i fe δ = (fe δ).out δ fun d => .nx (δ.set i (some (.v d))) := nodef rfl
@[simp] theorem s_augS (i : Nat) : augS i g fe δ = (varD i δ >>= fun d => fe δ >>= fun y => g d y).out δ fun d => .nx (δ.set i (some (.v d))) := nodef rfl
@[simp] theorem s_forS (f : FA) (tg : D → DS → Option DS) : forS f tg F δ = (f δ).out δ fun ds => forO tg F ds δ := nodef rfl
@[simp] theorem s_whileS (n : Nat) : whileS n gc F δ = whileO gc F n δ := nodef rfl
@[simp] theorem s_badS : badS δ = .bad := nodef rfl
@[simp] theorem s_tgN (i : Nat) (d : D) : tgN i d δ = some (δ.set i (some (.v d))) := nodef rfl
@[simp] theorem rs_assoc {α β γ : Type} (r : Rs α) (f : α → Rs β) (h : β → Rs γ) : ((r >>= f) >>= h) = (r >>= fun x => f x >>= h) := by cases r <;> rfl
noncomputable def Out.thn (o : Out) (F : FS) : Out := match o with
  | .nx δ' => F δ'
  | o => o
@[simp] theorem s_seqO : seqO F1 F2 δ = (F1 δ).thn F2 := by
  unfold seqO Out.thn
  cases F1 δ <;> rfl
@[simp] theorem thn_nx : (Out.nx δ).thn F = F δ := nodef rfl
@[simp] theorem thn_rt (d : D) : (Out.rt d).thn F = .rt d := nodef rfl
@[simp] theorem thn_bk : (Out.bk δ).thn F = .bk δ := nodef rfl
@[simp] theorem thn_ct : (Out.ct δ).thn F = .ct δ := nodef rfl
@[simp] theorem thn_bad : Out.bad.thn F = .bad := nodef rfl
@[simp] theorem fin_nx : fin (.nx δ) = .ok .non := nodef rfl
@[simp] theorem fin_rt (d : D) : fin (.rt d) = .ok d := nodef rfl
@[simp] theorem fin_bad : fin .bad = .bad := nodef rfl
@[simp] theorem s_varD0 (d : D) : varD 0 (some (.v d) :: δ) = .ok d := nodef rfl
@[simp] theorem s_varDs (x : Option Sl) (i : Nat) : varD (i + 1) (x :: δ) = varD i δ := nodef rfl
@[simp] theorem s_cD (d : D) : cD d δ = .ok d := nodef rfl
@[simp] theorem s_add (i j : Int) : addR (.int i) (.int j) = .ok (.int (i + j)) := nodef rfl
@[simp] theorem s_sub (i j : Int) : subR (.int i) (.int j) = .ok (.int (i - j)) := nodef rfl
theorem s_mul (i j : Int) : mulR (.int i) (.int j) = if (small i || small j) = true then .ok (.int (i * j)) else .bad := rfl
theorem mul_l {i j : Int} (h : -(2 ^ 64) < i ∧ i < 2 ^ 64) : mulR (.int i) (.int j) = .ok (.int (i * j)) := by
  rw [s_mul, if_pos]; rw [Bool.or_eq_true]; exact .inl (decide_eq_true h)
theorem mul_r {i j : Int} (h : -(2 ^ 64) < j ∧ j < 2 ^ 64) : mulR (.int i) (.int j) = .ok (.int (i * j)) := by
  rw [s_mul, if_pos]; rw [Bool.or_eq_true]; exact .inr (decide_eq_true h)
theorem s_mod {i j : Int} (h : 0 < j) : modR (.int i) (.int j) = .ok (.int (i % j)) := by show (if _ then _ else _) = _; rw [if_pos h]
theorem s_fdiv {i j : Int} (h : 0 < j ∧ j < 1073741824) : fdivR (.int i) (.int j) = .ok (.int (i / j)) := by show (if _ then _ else _) = _; rw [if_pos h]
theorem s_pow {i j : Int} (h : 0 ≤ j ∧ j ≤ 1000000 ∧ i.natAbs < 2 ^ 64) : powR (.int i) (.int j) = .ok (.int (i ^ j.toNat)) := by show (if _ then _ else _) = _; rw [if_pos h]
theorem s_adds {i j : Str} (h : i.length + j.length ≤ sizeLine) : addR (.str i) (.str j) = .ok (.str (i ++ j)) := by show (if _ then _ else _) = _; rw [if_pos h]
@[simp] theorem s_cmp (p : Int → Int → Bool) (i j : Int) : cmpR p (.int i) (.int j) = .ok (.bl (p i j)) := nodef rfl
@[simp] theorem s_isN (d : D) : isNR d .non = .ok (.bl (match d with | .non => true | _ => false)) := by cases d <;> rfl
@[simp] theorem s_isNot (d : D) : isNotR d .non = .ok (.bl (match d with | .non => false | _ => true)) := by cases d <;> rfl
@[simp] theorem s_truRb (b : Bool) : truR (.bl b) = .ok b := nodef rfl
@[simp] theorem s_truRi (b : Int) : truR (.int b) = .ok (truB (.int b)) := nodef rfl
@[simp] theorem s_truRs (b : Str) : truR (.str b) = .ok (truB (.str b)) := nodef rfl
@[simp] theorem s_truRn : truR .non = .ok (truB .non) := nodef rfl
@[simp] theorem s_truRt (b : List D) : truR (.tup b) = .ok (truB (.tup b)) := nodef rfl
@[simp] theorem s_truRl (b : List D) : truR (.lst b) = .ok (truB (.lst b)) := nodef rfl
@[simp] theorem s_trub (b : Bool) : truB (.bl b) = b := nodef rfl
@[simp] theorem s_lenS (z : Str) : lenR [.str z] = .ok (.int z.length) := nodef rfl
@[simp] theorem s_lenT (ds : List D) : lenR [.tup ds] = .ok (.int ds.length) := nodef rfl
@[simp] theorem s_lenL (ds : List D) : lenR [.lst ds] = .ok (.int ds.length) := nodef rfl
@[simp] theorem s_ord (c : Nat) : ordR [.str (chr1 c)] = .ok (.int c) := nodef rfl
@[simp] theorem s_itL (ds : List D) : itR (.lst ds) = .ok ds := nodef rfl
@[simp] theorem s_itT (ds : List D) : itR (.tup ds) = .ok ds := nodef rfl
@[simp] theorem s_itS (z : Str) : itR (.str z) = .ok (signsD z) := nodef rfl
@[simp] theorem s_isiN1 : isiN "NoneType" "int" = false := by decide
@[simp] theorem s_tup2 (a b : D) : tupR [a, b] = .ok (.tup [a, b]) := nodef rfl
@[simp] theorem s_tup3 (a b c : D) : tupR [a, b, c] = .ok (.tup [a, b, c]) := nodef rfl
@[simp] theorem s_lst0 : lstR [] = .ok (.lst []) := nodef rfl
@[simp] theorem s_lst1 (a : D) : lstR [a] = .ok (.lst [a]) := nodef rfl
@[simp] theorem s_lst2 (a b : D) : lstR [a, b] = .ok (.lst [a, b]) := nodef rfl
@[simp] theorem s_fn1 (m : Nat) (a : D) : fnR 1 m F [a] = fin (F (some (.v a) :: List.replicate m none)) := nodef rfl
@[simp] theorem s_fn2 (m : Nat) (a b : D) : fnR 2 m F [a, b] = fin (F (some (.v a) :: some (.v b) :: List.replicate m none)) := nodef rfl
@[simp] theorem s_fn3 (m : Nat) (a b c : D) : fnR 3 m F [a, b, c] = fin (F (some (.v a) :: some (.v b) :: some (.v c) :: List.replicate m none)) := nodef rfl
@[simp] theorem s_fn4 (m : Nat) (a b c d : D) : fnR 4 m F [a, b, c, d] = fin (F (some (.v a) :: some (.v b) :: some (.v c) :: some (.v d) :: List.replicate m none)) := nodef rfl
@[simp] theorem s_fn5 (m : Nat) (a b c d e : D) : fnR 5 m F [a, b, c, d, e] = fin (F (some (.v a) :: some (.v b) :: some (.v c) :: some (.v d) :: some (.v e) :: List.replicate m none)) := nodef rfl
@[simp] theorem s_vsl (d : D) : vsl d = some (.v d) := nodef rfl
@[simp] theorem s_innerD (fn : List (Str × Nat)) (v : Option Sl) : innerD δ fn v = v :: fn.map fun y => visS (δ[y.2]?).join := nodef rfl
@[simp] theorem s_visS (d : D) : visS (some (.v d)) = some (.v d) := nodef rfl
end

@[simp] theorem ty_int (i : Int) : tyN (.int i) = "int" := nodef rfl
@[simp] theorem ty_str (i : Str) : tyN (.str i) = "str" := nodef rfl
@[simp] theorem ty_tup (i : List D) : tyN (.tup i) = "tuple" := nodef rfl
@[simp] theorem ty_lst (i : List D) : tyN (.lst i) = "list" := nodef rfl
@[simp] theorem ty_bl (i : Bool) : tyN (.bl i) = "bool" := nodef rfl
@[simp] theorem ty_non : tyN .non = "NoneType" := nodef rfl
@[simp] theorem isi_ii : isiN "int" "int" = true := by decide
@[simp] theorem isi_ib : isiN "int" "bool" = false := by decide
@[simp] theorem isi_ss : isiN "str" "str" = true := by decide
@[simp] theorem isi_tt : isiN "tuple" "tuple" = true := by decide
@[simp] theorem isi_ll : isiN "list" "list" = true := by decide

mutual
theorem eqB_refl : ∀ d : D, eqB d d = true
  | .non => rfl
  | .bl b => by simp [eqB, toP, PyData.eqv]
  | .int b => by simp [eqB, toP, PyData.eqv]
  | .str b => by simp [eqB, toP, PyData.eqv]
  | .tup ds => by simpa [eqB, toP, PyData.eqv] using eqBs_refl ds
  | .lst ds => by simpa [eqB, toP, PyData.eqv] using eqBs_refl ds
  | .dct ks ds => by simp [eqB, toP, PyData.eqv]
  | .dtt ks ds => by simp [eqB, toP, PyData.eqv]
  | .exn c => by simp [eqB, toP, PyData.eqv]
theorem eqBs_refl : ∀ ds : List D, PyData.eqvAll (toPs ds) (toPs ds) = true
  | [] => rfl
  | d :: ds => by
    have h1 := eqB_refl d
    have h2 := eqBs_refl ds
    simp only [eqB] at h1
    simp [toPs, PyData.eqvAll, h1, h2]
end
noncomputable def eqBs (a b : List D) : Bool := PyData.eqvAll (toPs a) (toPs b)
@[simp] theorem eqB_int (i j : Int) : eqB (.int i) (.int j) = (i == j) := nodef rfl
@[simp] theorem eqB_str (i j : Str) : eqB (.str i) (.str j) = (i == j) := nodef rfl
@[simp] theorem eqB_lst (i j : List D) : eqB (.lst i) (.lst j) = eqBs i j := nodef rfl
@[simp] theorem eqB_tup (i j : List D) : eqB (.tup i) (.tup j) = eqBs i j := nodef rfl
@[simp] theorem eqBs_nil : eqBs [] [] = true := nodef rfl
@[simp] theorem eqBs_cons (a b : D) (i j : List D) : eqBs (a :: i) (b :: j) = (eqB a b && eqBs i j) := nodef rfl
@[simp] theorem eqBs_nc (b : D) (j : List D) : eqBs [] (b :: j) = false := nodef rfl
@[simp] theorem eqBs_cn (b : D) (j : List D) : eqBs (b :: j) [] = false := nodef rfl
@[simp] theorem eqB_self (d : D) : eqB d d = true := eqB_refl d
@[simp] theorem eqBs_self (d : List D) : eqBs d d = true := eqBs_refl d
noncomputable def dep (d : D) : Nat := (toP d).depth
noncomputable def deps (ds : List D) : Nat := PyData.depthAll (toPs ds)
@[simp] theorem dep_int (i : Int) : dep (.int i) = 0 := nodef rfl
@[simp] theorem dep_str (i : Str) : dep (.str i) = 0 := nodef rfl
@[simp] theorem dep_bl (i : Bool) : dep (.bl i) = 0 := nodef rfl
@[simp] theorem dep_non : dep .non = 0 := nodef rfl
@[simp] theorem dep_tup (i : List D) : dep (.tup i) = deps i + 1 := nodef rfl
@[simp] theorem dep_lst (i : List D) : dep (.lst i) = deps i + 1 := nodef rfl
@[simp] theorem deps_nil : deps [] = 0 := nodef rfl
@[simp] theorem deps_cons (a : D) (i : List D) : deps (a :: i) = max (dep a) (deps i) := nodef rfl
theorem deps_le {n : Nat} : ∀ {ds : List D}, (∀ d ∈ ds, dep d ≤ n) → deps ds ≤ n
  | [], _ => Nat.zero_le _
  | d :: ds, h => by
    have h1 := h d (List.mem_cons_self ..)
    have h2 := deps_le (n := n) (ds := ds) fun e he => h e (List.mem_cons_of_mem _ he)
    rw [deps_cons]; omega
@[simp] theorem lay_non : lay .non = true := nodef rfl
@[simp] theorem lay_bl (b : Bool) : lay (.bl b) = true := nodef rfl
@[simp] theorem lay_int (b : Int) : lay (.int b) = true := nodef rfl
@[simp] theorem lay_str (b : Str) : lay (.str b) = true := nodef rfl
@[simp] theorem lay_tup (b : List D) : lay (.tup b) = layL b := nodef rfl
@[simp] theorem lay_lst (b : List D) : lay (.lst b) = layL b := nodef rfl
@[simp] theorem layL_nil : layL [] = true := nodef rfl
@[simp] theorem layL_cons (d : D) (b : List D) : layL (d :: b) = (lay d && layL b) := nodef rfl
theorem layL_map {α : Type} {f : α → D} (h : ∀ x, lay (f x) = true) : ∀ l : List α, layL (l.map f) = true
  | [] => rfl
  | x :: l => by rw [List.map_cons, layL_cons, h x, layL_map h l]; rfl
theorem eq_l {a b : D} (h : dep a ≤ 64) (ha : lay a = true := by first | rfl | assumption | (simp; done) | exact layL_map (fun _ => rfl) _ | (simp [layL_map]; done)) (hb : lay b = true := by first | rfl | assumption | (simp; done) | exact layL_map (fun _ => rfl) _ | (simp [layL_map]; done)) : eqR a b = .ok (.bl (eqB a b)) := by
  unfold eqR flat2
  have : min (toP a).depth (toP b).depth ≤ 64 := Nat.le_trans (Nat.min_le_left _ _) h
  rw [if_pos (by rw [decide_eq_true this, ha, hb]; rfl)]
theorem eq_r {a b : D} (h : dep b ≤ 64) (ha : lay a = true := by first | rfl | assumption | (simp; done) | exact layL_map (fun _ => rfl) _ | (simp [layL_map]; done)) (hb : lay b = true := by first | rfl | assumption | (simp; done) | exact layL_map (fun _ => rfl) _ | (simp [layL_map]; done)) : eqR a b = .ok (.bl (eqB a b)) := by
  unfold eqR flat2
  have : min (toP a).depth (toP b).depth ≤ 64 := Nat.le_trans (Nat.min_le_right _ _) h
  rw [if_pos (by rw [decide_eq_true this, ha, hb]; rfl)]
theorem ne_l {a b : D} (h : dep a ≤ 64) (ha : lay a = true := by first | rfl | assumption | (simp; done) | exact layL_map (fun _ => rfl) _ | (simp [layL_map]; done)) (hb : lay b = true := by first | rfl | assumption | (simp; done) | exact layL_map (fun _ => rfl) _ | (simp [layL_map]; done)) : neR a b = .ok (.bl (!eqB a b)) := by
  unfold neR flat2
  have : min (toP a).depth (toP b).depth ≤ 64 := Nat.le_trans (Nat.min_le_left _ _) h
  rw [if_pos (by rw [decide_eq_true this, ha, hb]; rfl)]
theorem ne_r {a b : D} (h : dep b ≤ 64) (ha : lay a = true := by first | rfl | assumption | (simp; done) | exact layL_map (fun _ => rfl) _ | (simp [layL_map]; done)) (hb : lay b = true := by first | rfl | assumption | (simp; done) | exact layL_map (fun _ => rfl) _ | (simp [layL_map]; done)) : neR a b = .ok (.bl (!eqB a b)) := by
  unfold neR flat2
  have : min (toP a).depth (toP b).depth ≤ 64 := Nat.le_trans (Nat.min_le_right _ _) h
  rw [if_pos (by rw [decide_eq_true this, ha, hb]; rfl)]
@[simp] theorem eq_int (i j : Int) : eqR (.int i) (.int j) = .ok (.bl (i == j)) := eq_l (Nat.zero_le _)
@[simp] theorem ne_int (i j : Int) : neR (.int i) (.int j) = .ok (.bl (!(i == j))) := ne_l (Nat.zero_le _)
@[simp] theorem eq_str (i j : Str) : eqR (.str i) (.str j) = .ok (.bl (i == j)) := eq_l (Nat.zero_le _)
@[simp] theorem ne_str (i j : Str) : neR (.str i) (.str j) = .ok (.bl (!(i == j))) := ne_l (Nat.zero_le _)

theorem ix_lst {ds : List D} {i : Nat} {d : D} (h : ds[i]? = some d) : idxR (.lst ds) (.int i) = .ok d := by
  show (match atI ds (i : Int) with | some d => Rs.ok d | none => .bad) = _
  rw [atI_nat h]
theorem ix_tup {ds : List D} {i : Nat} {d : D} (h : ds[i]? = some d) : idxR (.tup ds) (.int i) = .ok d := by
  show (match atI ds (i : Int) with | some d => Rs.ok d | none => .bad) = _
  rw [atI_nat h]
theorem ix_str {z : Str} {i : Nat} {c : Nat} (h : z.cps.toList[i]? = some c) : idxR (.str z) (.int i) = .ok (.str (chr1 c)) := by
  show (match atI z.cps.toList (i : Int) with | some c => Rs.ok (D.str (chr1 c)) | none => .bad) = _
  rw [atI_nat h]
@[simp] theorem ix_t0 (a : D) (r : List D) : idxR (.tup (a :: r)) (.int 0) = .ok a := ix_tup (i := 0) rfl
@[simp] theorem ix_t1 (a b : D) (r : List D) : idxR (.tup (a :: b :: r)) (.int 1) = .ok b := ix_tup (i := 1) rfl
@[simp] theorem ix_t2 (a b c : D) (r : List D) : idxR (.tup (a :: b :: c :: r)) (.int 2) = .ok c := ix_tup (i := 2) rfl

theorem rng1_ok {j : Int} (h : -(2 ^ 62) ≤ j ∧ j < 2 ^ 62) : rng1R [.int j] = .ok (rngD 0 j.toNat) := by
  show (if inRng j = true then _ else _) = _
  have : inRng j = true := decide_eq_true h
  rw [if_pos this]
noncomputable def Out.go : Out → Option DS
  | .nx δ => some δ
  | .ct δ => some δ
  | _ => none
theorem for_inv {tg : D → DS → Option DS} {F : FS} (P : List D → DS → Prop) : ∀ (ds : List D) (pre : List D) (δ : DS), P pre δ →
    (∀ (d : D) (p q : List D) (δ : DS), pre ++ ds = p ++ d :: q → P p δ → ∃ δ1 δ2, tg d δ = some δ1 ∧ (F δ1 = .nx δ2 ∨ F δ1 = .ct δ2) ∧ P (p ++ [d]) δ2) → ∃ δ', forO tg F ds δ = .nx δ' ∧ P (pre ++ ds) δ'
  | [], pre, δ, h, _ => ⟨δ, rfl, by simpa using h⟩
  | d :: ds, pre, δ, h, st => by
    obtain ⟨δ1, δ2, e1, e2, h2⟩ := st d pre ds δ rfl h
    obtain ⟨δ', e3, h3⟩ := for_inv P ds (pre ++ [d]) δ2 h2 fun d' p q δ' e => st d' p q δ' (by simpa using e)
    refine ⟨δ', ?_, by simpa using h3⟩
    unfold forO
    rw [e1]
    rcases e2 with e2 | e2 <;> (dsimp only; rw [e2]; exact e3)
theorem for_do {tg : D → DS → Option DS} {F : FS} (P : List D → DS → Prop) {ds : List D} {δ : DS} (h : P [] δ)
    (st : ∀ (d : D) (p q : List D) (δ : DS), ds = p ++ d :: q → P p δ → ∃ δ1 δ2, tg d δ = some δ1 ∧ (F δ1 = .nx δ2 ∨ F δ1 = .ct δ2) ∧ P (p ++ [d]) δ2) : ∃ δ', forO tg F ds δ = .nx δ' ∧ P ds δ' := by
  have := for_inv P ds [] δ h (by simpa using st)
  simpa using this
theorem for_map {α : Type} {tg : D → DS → Option DS} {F : FS} (f : α → D) (P : List α → DS → Prop) {xs : List α} {δ : DS} (h : P [] δ)
    (st : ∀ (x : α) (p q : List α) (δ : DS), xs = p ++ x :: q → P p δ → ∃ δ1 δ2, tg (f x) δ = some δ1 ∧ (F δ1 = .nx δ2 ∨ F δ1 = .ct δ2) ∧ P (p ++ [x]) δ2) : ∃ δ', forO tg F (xs.map f) δ = .nx δ' ∧ P xs δ' := by
  have key : ∀ (ys pre : List α) (δ : DS), xs = pre ++ ys → P pre δ → ∃ δ', forO tg F (ys.map f) δ = .nx δ' ∧ P xs δ' := by
    intro ys
    induction ys with
    | nil => intro pre δ e h; exact ⟨δ, rfl, by rw [e, List.append_nil]; exact h⟩
    | cons y ys ih =>
      intro pre δ e h
      obtain ⟨δ1, δ2, e1, e2, h2⟩ := st y pre ys δ e h
      obtain ⟨δ', e3, h3⟩ := ih (pre ++ [y]) δ2 (by simpa using e) h2
      refine ⟨δ', ?_, h3⟩
      rw [List.map_cons]
      unfold forO
      rw [e1]
      rcases e2 with e2 | e2 <;> (dsimp only; rw [e2]; exact e3)
  exact key xs [] δ rfl h
theorem comp_list {α : Type} {elt : D → Rs D} (f : α → D) (g : α → D) {xs : List α} (h : ∀ x ∈ xs, elt (f x) = .ok (g x)) : compL elt (fun _ => .ok true) (xs.map f) = .ok (xs.map g) := by
  induction xs with
  | nil => rfl
  | cons x xs ih =>
    rw [List.map_cons, List.map_cons]
    unfold compL
    rw [h x (List.mem_cons_self ..), ih fun y hy => h y (List.mem_cons_of_mem _ hy)]
theorem big_ok {ds es : List D} (h : ds.length ≤ 1000000) : bigR ds (.ok es) = .ok (.lst es) := by unfold bigR; rw [if_pos h]
end M

set_option Elab.async false
set_option linter.all false
set_option maxRecDepth 100000
set_option maxHeartbeats 4000000
namespace M
open PySem PySem.Spec PyProof.Rows L2
set_option autoImplicit false

noncomputable def cutL {α : Type} (xs : List α) (lo hi : Option Int) : List α := (xs.drop (HT.sIx xs.length 0 lo)).take (HT.sIx xs.length xs.length hi - HT.sIx xs.length 0 lo)
noncomputable def cutT (x : Str) (lo hi : Option Int) : Str := ⟨(cutL x.cps.toList lo hi).toArray⟩
theorem clip_eq2 (v : Int) (n d : Nat) : max 0 (min (if v < 0 then v + (n : Int) else v) (n : Int)) = ((HT.sIx n d (some v) : Nat) : Int) := by
  rw [← HT.clip_eq v n d]
  by_cases hv : v < 0
  · simp only [if_pos hv]; omega
  · simp only [if_neg hv]; omega
theorem idx_gen (lo hi : Option Int) (n : Nat) : Builtin.Str.strSliceIndices lo hi 1 n = (List.range (HT.sIx n n hi - HT.sIx n 0 lo)).map (fun k => HT.sIx n 0 lo + k) := by
  have e : Builtin.Str.strSliceIndices lo hi 1 n = sliceRange ((HT.sIx n 0 lo : Nat) : Int) ((HT.sIx n n hi : Nat) : Int) 1 := by
    unfold Builtin.Str.strSliceIndices
    simp only [show ((1 : Int) > 0) = True from by simp, if_true]
    congr 1
    · cases lo with
      | none => rfl
      | some v => exact clip_eq2 v n 0
    · cases hi with
      | none => rfl
      | some v => exact clip_eq2 v n n
  rw [e]
  unfold sliceRange
  simp only [show ((1 : Int) > 0) = True from by simp, if_true]
  have e2 : (if ((HT.sIx n 0 lo : Nat) : Int) < ((HT.sIx n n hi : Nat) : Int) then (((HT.sIx n n hi : Nat) : Int) - ((HT.sIx n 0 lo : Nat) : Int) + 1 - 1) / 1 else 0).toNat = HT.sIx n n hi - HT.sIx n 0 lo := by
    split <;> omega
  rw [e2]
  apply List.map_congr_left
  intro k _
  omega
theorem pick_drop {α : Type} (l : List α) (a m : Nat) (h : a + m ≤ l.length) : ((List.range m).map fun k => a + k).filterMap (fun i => l[i]?) = (l.drop a).take m := by
  induction m with
  | zero => simp
  | succ m ih =>
    rw [List.range_succ, List.map_append, List.filterMap_append, ih (by omega)]
    have e : (l.drop a)[m]? = l[a + m]? := by rw [List.getElem?_drop]
    have hl : m < (l.drop a).length := by rw [List.length_drop]; omega
    rw [List.take_add_one, e]
    simp [List.getElem?_eq_getElem (show a + m < l.length by omega)]
theorem cutT_eq (x : Str) (lo hi : Option Int) : (⟨((Builtin.Str.strSliceIndices lo hi 1 x.length).filterMap (x.cps[·]?)).toArray⟩ : Str) = cutT x lo hi := by
  have hl : x.cps.toList.length = x.length := by simp [Str.length]
  have hb := HT.sIx_le x.length x.length (Nat.le_refl _) hi
  have ha := HT.sIx_le x.length 0 (Nat.zero_le _) lo
  unfold cutT cutL
  rw [idx_gen, hl]
  have := pick_drop x.cps.toList (HT.sIx x.length 0 lo) (HT.sIx x.length x.length hi - HT.sIx x.length 0 lo) (by rw [hl]; omega)
  rw [← this]
  simp
theorem cutT_len (x : Str) (lo hi : Option Int) : (cutT x lo hi).length ≤ x.length := by
  unfold cutT cutL Str.length
  simp
  omega
theorem cutT_all (x : Str) (lo hi : Option Int) (h : (Builtin.Str.strSliceIndices lo hi 1 x.length).length = x.length) : cutT x lo hi = x := by
  have hl : x.cps.toList.length = x.length := by simp [Str.length]
  rw [idx_gen] at h
  simp at h
  have hb := HT.sIx_le x.length x.length (Nat.le_refl _) hi
  have e1 : HT.sIx x.length 0 lo = 0 ∨ x.length = 0 := by omega
  have hx : cutL x.cps.toList lo hi = x.cps.toList := by
    unfold cutL
    rw [hl]
    rcases e1 with e1 | e1
    · rw [e1, show HT.sIx x.length x.length hi - 0 = x.cps.toList.length by omega, List.drop_zero, List.take_length]
    · have : x.cps.toList = [] := List.length_eq_zero_iff.mp (by omega)
      rw [this]; simp
  unfold cutT
  rw [hx]
theorem strOk_cut {x : Str} (h : PyData.strOk x = true) (lo hi : Option Int) : PyData.strOk (cutT x lo hi) = true := by
  unfold PyData.strOk at h ⊢
  rw [Array.all_eq_true_iff_forall_mem] at h ⊢
  intro c hc
  refine h c ?_
  have : c ∈ cutL x.cps.toList lo hi := by simpa [cutT] using hc
  unfold cutL at this
  have := List.mem_of_mem_drop (List.mem_of_mem_take this)
  simpa using this
noncomputable def rSlS : V → Option Int → Option Int → Hp → VK → Prop := fun x lo hi H Q => ∃ z, x = .str z ∧ z.length ≤ sizeLine ∧ Q (.str (cutT z lo hi)) H
theorem sl_str {X : Cx} : SlR X rSlS := by
  intro pins s σ H x v vl vu lo hi sl Q I rx hs pl pu h
  obtain ⟨z, rfl, hz, q⟩ := h
  obtain ⟨t, rfl⟩ := rx
  refine ⟨"str", _, F.slot_str_getitem.lookup, typeIs_str _ _ _, ?_⟩
  have key : ∀ (l u : Option (Int × Tok)), vl = partValue l → vu = partValue u → lo = l.map (·.1) → hi = u.map (·.1) → wpAny (model X.prog X.w) X.A (getItem (.str z t) (.ref sl)) (EP X pins σ Q) X.xe s := by
    intro l u e1 e2 e3 e4
    refine wpAny_getItem_str_slice (l := l) (u := u) (st := none) ?_ rfl ?_
    · rw [e1, e2] at hs; exact hs
    · unfold sliceMade
      split
      · rename_i hc
        rw [Bool.and_eq_true] at hc
        have hc := eq_of_beq hc.2
        unfold slicePicked at hc
        rw [← e3, ← e4] at hc
        refine ⟨.str z, H, I, ⟨t, rfl⟩, ?_⟩
        have := cutT_all z lo hi hc
        rw [this] at q; exact q
      · unfold slicePicked
        rw [← e3, ← e4]
        refine ⟨?_, ?_⟩
        · show (⟨((Builtin.Str.strSliceIndices lo hi 1 z.length).filterMap (z.cps[·]?)).toArray⟩ : Str).length ≤ sizeLine
          rw [cutT_eq]; exact Nat.le_trans (cutT_len _ _ _) hz
        · refine ⟨.str (cutT z lo hi), H, I.tok _, ⟨s.toks, ?_⟩, q⟩
          show Value.str ⟨((Builtin.Str.strSliceIndices lo hi 1 z.length).filterMap (z.cps[·]?)).toArray⟩ _ = _
          rw [cutT_eq]
  cases pl with
  | none => cases pu with
    | none => exact key none none rfl rfl rfl rfl
    | int j u => exact key none (some (j, u)) rfl rfl rfl rfl
  | int i u1 => cases pu with
    | none => exact key (some (i, u1)) none rfl rfl rfl rfl
    | int j u => exact key (some (i, u1)) (some (j, u)) rfl rfl rfl rfl
noncomputable abbrev FP := DS → Rs (Option Int)
noncomputable def noP : FP := fun _ => .ok none
noncomputable def partR : D → Rs (Option Int)
  | .int i => .ok (some i)
  | _ => .bad
noncomputable def someP (fe : FE) : FP := fun δ => fe δ >>= partR
noncomputable def sliceR : D → Option Int → Option Int → Rs D
  | .str x, lo, hi => .ok (.str (cutT x lo hi))
  | .lst ds, lo, hi => .ok (.lst (cutL ds lo hi))
  | _, _, _ => .bad
noncomputable def slF (fe : FE) (fl fh : FP) : FE := fun δ => fe δ >>= fun d => fl δ >>= fun l => fh δ >>= fun h => sliceR d l h
noncomputable def tO (X : Cx) (B G₀ : Hp) (f : FP) : TO := fun σ H Q => ∃ G δ, Rel X B G₀ σ H G δ ∧ (f δ).wp (fun c => Xo X c σ H G) fun o => ∀ H' G', Ext H G H' G' → Q o H'
section
variable {X : Cx} {B G₀ : Hp} {e : Expr} {lo hi : Option Expr} {fe : FE} {fl fh : FP} {pos p2 : Pos}
theorem q_noPart : PO X none (tO X B G₀ noP) := fun pins s σ H Q I ⟨G, δ, R, hw⟩ => po_none pins s σ H Q I (hw H G (Ext.refl R.ext.gh))
theorem q_part (he : PE X e (tE X B G₀ fe)) : PO X (some e) (tO X B G₀ (someP fe)) := fun pins s σ H Q I ⟨G, δ, R, hw⟩ => by
  refine po_some he pins s σ H Q I ⟨G, δ, R, ?_⟩
  unfold someP at hw
  rw [wp_bind] at hw
  refine Rs.wp.mono hw (fun _ x => x) fun d q v H1 G1 e1 i1 => ?_
  cases d with
  | int i => cases (show v = .int i from i1); exact ⟨i, rfl, q H1 G1 e1⟩
  | _ => exact q.elim
theorem isL_cut {K : PySem.W.Frag} {G : Hp} {ds : List D} {xs : List V} (h : IsL K G ds xs) (lo hi : Option Int) : IsL K G (cutL ds lo hi) (cutV xs lo hi) := by
  unfold cutL cutV
  rw [h.length]
  exact IsL.take _ (IsL.drop _ h)
theorem q_slice (he : PE X e (tE X B G₀ fe)) (hl : PO X lo (tO X B G₀ fl)) (hu : PO X hi (tO X B G₀ fh)) : PE X (.Subscript e (.Slice lo hi none p2) pos) (tE X B G₀ (slF fe fl fh)) := by
  refine pd_of (pe_slice (sl_str.or sl_list) he hl hu) fun σ H G δ Q R hw => ?_
  refine ⟨G, δ, R, ?_⟩
  unfold W slF at hw
  rw [wp_bind] at hw
  refine Rs.wp.mono hw (fun _ x => x) fun d q v H1 G1 e1 i1 => ?_
  rw [wp_bind] at q
  refine ⟨G1, δ, R.mono e1, Rs.wp.mono q (fun _ x => x.mono e1) fun l q2 H2 G2 e2 => ?_⟩
  rw [wp_bind] at q2
  refine ⟨G2, δ, (R.mono e1).mono e2, Rs.wp.mono q2 (fun _ x => x.mono (e1.trans e2)) fun h q3 H3 G3 e3 => ?_⟩
  have e13 := (e1.trans e2).trans e3
  have i3 := i1.same (e2.trans e3).gg
  cases d with
  | str z =>
    obtain ⟨rfl, hz, ho⟩ := i3
    exact .inl ⟨z, rfl, hz, q3 _ H3 G3 e13 ⟨rfl, Nat.le_trans (cutT_len _ _ _) hz, strOk_cut ho _ _⟩⟩
  | lst ds =>
    obtain ⟨a, xs, rfl, h1, h2, h3⟩ := i3
    refine .inr ⟨a, xs, rfl, e3.gh.seq h1, fun p hp => q3 (.ref p) _ (upd G3 p (.lst (cutV xs l h))) (e13.trans (Ext.laid e3.gh hp)) ⟨p, _, rfl, .of upd_same, Nat.le_trans (cutV_length _ _ _) h2, (isL_cut h3 l h).same (same_upd (e3.gh.free hp) _)⟩⟩
  | _ => exact q3.elim
end
@[simp] theorem s_noP (δ : DS) : noP δ = .ok none := nodef rfl
@[simp] theorem s_someP (fe : FE) (δ : DS) : someP fe δ = (fe δ >>= partR) := nodef rfl
@[simp] theorem s_partR (i : Int) : partR (.int i) = .ok (some i) := nodef rfl
@[simp] theorem s_slF (fe : FE) (fl fh : FP) (δ : DS) : slF fe fl fh δ = (fe δ >>= fun d => fl δ >>= fun l => fh δ >>= fun h => sliceR d l h) := nodef rfl
@[simp] theorem s_sliceS (x : Str) (lo hi : Option Int) : sliceR (.str x) lo hi = .ok (.str (cutT x lo hi)) := nodef rfl
@[simp] theorem s_sliceL (x : List D) (lo hi : Option Int) : sliceR (.lst x) lo hi = .ok (.lst (cutL x lo hi)) := nodef rfl
theorem cut_to {α : Type} (xs : List α) (b : Nat) : cutL xs none (some (b : Int)) = xs.take b := by
  unfold cutL
  rw [HT.sIx_none, HT.sIx_nat, List.drop_zero, Nat.sub_zero]
  by_cases h : b ≤ xs.length
  · rw [Nat.min_eq_left h]
  · rw [Nat.min_eq_right (by omega), List.take_length, List.take_of_length_le (by omega)]
theorem cut_from {α : Type} (xs : List α) (a : Nat) : cutL xs (some (a : Int)) none = xs.drop a := by
  unfold cutL
  rw [HT.sIx_none, HT.sIx_nat]
  by_cases h : a ≤ xs.length
  · rw [Nat.min_eq_left h, List.take_of_length_le (by rw [List.length_drop]; exact Nat.le_refl _)]
  · rw [Nat.min_eq_right (by omega), List.drop_eq_nil_of_le (by omega), List.drop_eq_nil_of_le (by omega)]; simp
end M

set_option Elab.async false
set_option linter.all false
set_option maxRecDepth 100000
set_option maxHeartbeats 4000000
namespace M
open PySem PySem.Spec PyProof.Rows L2
set_option autoImplicit false

noncomputable def small3 (a b c : Int) : Bool := decide (-1073741824 < a ∧ a < 1073741824 ∧ -1073741824 < b ∧ b < 1073741824 ∧ -1073741824 < c ∧ c < 1073741824 ∧ c ≠ 0)
noncomputable def rngN (a b c : Int) : Nat := (Builtin.Range.rangeSize a b c).toNat
noncomputable def rngD3 (lo c : Int) (n : Nat) : List D := (List.range n).map fun (k : Nat) => .int (lo + (k : Int) * c)
section
variable {X : Cx} {B G₀ : Hp} {tg : Expr} {a b c : Expr} {fr : FA} {p pos : Pos}
noncomputable def rng3R : List D → Rs (List D)
  | [.int a, .int b, .int c] => if small3 a b c = true then .ok (rngD3 a c (rngN a b c)) else .bad
  | _ => .bad
noncomputable def rng3 (fr : FA) : FA := fun δ => fr δ >>= rng3R
end
@[simp] theorem s_rng3 (fr : FA) (δ : DS) : rng3 fr δ = (fr δ >>= rng3R) := nodef rfl
end M

set_option Elab.async false
set_option linter.all false
set_option maxRecDepth 100000
set_option maxHeartbeats 4000000
namespace M
open PySem PySem.Spec PyProof.Rows L2
set_option autoImplicit false

noncomputable def getO (δ : DS) (i : Nat) : Rs (List D) := match δ[i]? with
  | some (some (.ow .l ds)) => .ok ds
  | _ => .bad
theorem getO_ok {δ : DS} {i : Nat} {ds : List D} (h : getO δ i = .ok ds) : δ[i]? = some (some (.own ds)) := by
  unfold getO at h
  split at h
  · rename_i e; cases h; exact e
  · cases h
theorem getO_ne {δ : DS} {i : Nat} {c : Str} : getO δ i ≠ .exc c := by
  unfold getO
  split <;> (intro h; cases h)
noncomputable def ownS (i : Nat) (fr : FA) : FS := fun δ => (fr δ).out δ fun ds => if ds.length ≤ 1000 then .nx (δ.set i (some (.own ds))) else .bad
noncomputable def mutS (i : Nat) (m : List D → List D → Rs (List D)) (fr : FA) : FS := fun δ => (getO δ i >>= fun ds => fr δ >>= fun es => m ds es).out δ fun ys => .nx (δ.set i (some (.own ys)))
noncomputable def mut0S (i : Nat) (m : List D → List D) : FS := fun δ => (getO δ i).out δ fun ds => .nx (δ.set i (some (.own (m ds))))
noncomputable def appM (ds : List D) : List D → Rs (List D)
  | [d] => if ds.length < 1000000 then .ok (ds ++ [d]) else .bad
  | _ => .bad
theorem million : (1000000 : Nat) < sizeLine := by decide
section
variable {X : Cx} {B G₀ : Hp} {σ : St} {H G : Hp} {δ : DS} {D' : Ends} {e o : Expr} {es : List Expr} {fe : FE} {fr : FA} {F : FS} {g : FT} {x : Str} {pos pos' p apos : Pos} {st : Stmt} {sts : List Stmt}
theorem out_WA {r : Rs (List D)} {k : List D → Out} {Q : List V → Hp → Prop} (R : Rel X B G₀ σ H G δ) (hw : WS X B G₀ D' (r.out δ k)) (hk : ∀ d, r = .ok d → WS X B G₀ D' (k d) → ∀ v H' G', Ext H G H' G' → IsL X.K G' d v → Q v H') : WA X Q σ H G r := by
  cases r with
  | ok d => exact hk d rfl hw
  | exc c => exact fun pins s' H' G' ev e I x => hw pins σ s' H' G' ev (R.mono e) I x
  | bad => exact hw.elim
theorem q_own (i : Nat) {p2 : Pos} (hN : X.N.Nodup) (ha : PA X es (tAs X B G₀ fr)) (hi : X.N[i]? = some x := by rfl) (hx : Loc X.env.scope x := by first | exact Or.inl rfl | exact Or.inr rfl) (hs : swapsWith (.List es p2) (some (.Name x pos')) pos.line X.env = pure false := by rfl)
    (hf : X.fn x = true ∨ X.env.scope.names.lookup x = some .local := by first | exact .inl rfl | exact .inr rfl | assumption) :
    PS X (.Assign [.Name x pos'] (.List es p2) pos) (tS X B G₀ (ownS i fr)) := by
  refine ps_imp (ps_set hN hi hx (pe_lst ha) hs hf) fun D' σ H ⟨G, δ, R, hw⟩ => ⟨G, δ, R, out_WA R hw fun ds _ hk vs H1 G1 e1 i1 => ?_⟩
  split at hk
  · rename_i hl
    have hz : vs.length ≤ sizeLine := Nat.le_trans (by rw [i1.length]; omega) thousand
    refine ⟨hz, fun q hq => hk _ _ G1 ((R.mono e1).setOwn i hq (same_upd hq _) upd_same (e1.gh.trans (same_upd hq _)) hz i1)⟩
  · exact hk.elim
noncomputable def MutD (X : Cx) (r : V → List V → Hp → VK → Prop) (m : List D → List D → Rs (List D)) : Prop :=
  ∀ (H G : Hp) (a : Addr) (xs vs : List V) (ds es ys : List D) (Q : Hp → Prop), Same G H → H a = some (.lst xs) → G a = none → xs.length ≤ sizeLine → IsL X.K G ds xs → IsL X.K G es vs → m ds es = .ok ys →
    (∀ zs, zs.length ≤ sizeLine → IsL X.K G ys zs → Q (upd H a (.lst zs))) → r (.ref a) vs H fun _ H' => Q H'
theorem q_mut (i : Nat) {id : String} {r : V → List V → Hp → VK → Prop} {m : List D → List D → Rs (List D)} {name : Str} (hne : ∀ ds es c, m ds es ≠ .exc c) (slot : Slot "list" name id) (hty : typeOf (.builtin id) = pure (.type "method_descriptor")) (hm : MtR X id r) (hd : MutD X r m) (ha : PA X (e :: es) (tAs X B G₀ fr))
    (hN : X.N[i]? = some x := by rfl) (hv : Vis X.env.scope x := by first | exact Or.inl rfl | exact Or.inr (Or.inl rfl) | exact Or.inr (Or.inr rfl)) (hdb : (x == ("__debug__" : Str)) = false := by decide) (hcd : (x == ("__classdict__" : Str)) = false := by decide)
    (hbase : attributeBase (.Name x p) name X.env (eval (.Name x p) X.env) = eval (.Name x p) X.env := by rfl)
    (hfew : ((backTo pos (starEach (e :: es) X.env)).all (fun x => !x.1) && (backToKw pos (keywordEach [] X.env)).all (fun x => x.1.isSome)
      && decide ((e :: es).length + ([] : List Keyword).length + (if ([] : List Keyword).isEmpty then 0 else 1) < 30)) = true := by rfl)
    (hline : (apos.endLine == pos.line) = true := by rfl) (hs : starEach (e :: es) X.env = (false, eval e X.env) :: starEach es X.env := by rfl) (hplain : (backTo pos (starEach es X.env)).any (·.1) = false := by rfl)
    (hsw : swapsWith (.Call (.Attribute (.Name x p) name apos) (e :: es) [] pos) none pos'.line X.env = pure false := by rfl) :
    PS X (.Expr (.Call (.Attribute (.Name x p) name apos) (e :: es) [] pos) pos') (tS X B G₀ (mutS i m fr)) := by
  refine ps_imp (ps_expr (pe_bm PySem.F.plainAttrs_list slot hty hm (pe_var hN hv hdb hcd) ha hbase hfew hline hs hplain) hsw) fun D' σ H ⟨G, δ, R, hw⟩ => ?_
  unfold mutS at hw
  cases q : getO δ i with
  | exc c => exact (getO_ne q).elim
  | bad => rw [q] at hw; exact hw.elim
  | ok ds =>
    rw [q] at hw
    have hi := getO_ok q
    obtain ⟨a, xs, hσ, hH, hG, hB, hz, hI⟩ := R.own i ds hi
    refine ⟨.ref a, hσ, .inl ⟨rfl, xs, SqL.of hH⟩, G, δ, R, ?_⟩
    have hw' : WS X B G₀ D' ((fr δ).out δ fun es => (m ds es).out δ fun ys => .nx (δ.set i (some (.own ys)))) := by
      revert hw
      show WS X B G₀ D' ((fr δ >>= fun es => m ds es).out δ _) → _
      cases fr δ with
      | ok es => exact fun z => z
      | exc c => exact fun z => z
      | bad => exact fun z => z
    refine out_WA R hw' fun es' _ hk vs H1 G1 e1 i1 => ?_
    cases q2 : m ds es' with
    | exc c => exact (hne _ _ _ q2).elim
    | bad => rw [q2] at hk; exact hk.elim
    | ok ys =>
      rw [q2] at hk
      have hG1 : G1 a = none := by
        cases z : G1 a with
        | none => rfl
        | some o =>
          rcases e1.new a o z with w | w
          · rw [hG] at w; cases w
          · rw [hH] at w; cases w
      exact hd H1 G1 a xs vs ds es' ys (fun H' => D'.nx σ H') e1.gh (e1.hh _ _ hH) hG1 hz (hI.same e1.gg) i1 q2 fun zs hzs hI' => hk σ _ G1 ((R.mono e1).write hi hσ hzs hI')
theorem mut_append : MutD X rAppend appM := by
  intro H G a xs vs ds es ys Q gh hH hG hz hI hE hm hQ
  unfold appM at hm
  split at hm
  · rename_i d
    split at hm
    · rename_i hl
      cases hm
      obtain ⟨v, rfl, hv⟩ := isL1 hE
      have hl' := hI.length
      have := million
      exact ⟨a, xs, v, rfl, rfl, hH, by omega, hQ _ (by rw [List.length_append, List.length_singleton]; omega) (hI.append (IsL.one hv))⟩
    · cases hm
  · cases hm
theorem app_ne : ∀ ds es c, appM ds es ≠ .exc c := by
  intro ds es c h
  unfold appM at h
  split at h
  · split at h <;> cases h
  · cases h
noncomputable def setM (ds : List D) (i d : D) : Rs (List D) := match i with
  | .int k => match ixN ds.length k with
    | some j => .ok (ds.set j d)
    | none => .bad
  | _ => .bad
noncomputable def setiS (i : Nat) (fi fe : FE) : FS := fun δ => (fe δ >>= fun d => getO δ i >>= fun ds => fi δ >>= fun k => setM ds k d).out δ fun ys => .nx (δ.set i (some (.own ys)))
noncomputable def lentT (g : FT) : FT := fun δ => g (share δ)
noncomputable def flatR : D → Rs D
  | .non => .ok .non
  | .bl b => .ok (.bl b)
  | .int i => .ok (.int i)
  | .str z => .ok (.str z)
  | _ => .bad
noncomputable def lentE (fe : FE) : FE := fun δ => fe (share δ) >>= flatR
noncomputable def shareS' (F : FS) : FS := fun δ => F (share δ)
theorem back_ext {G1 H1 G2 : Hp} (R : Rel X B G₀ σ H G δ) (s1 : Same G G1) (nw : ∀ b o, G1 b = some o → G b = some o ∨ ownAt σ δ b) (e : Ext H G1 H1 G2) : ∃ G', Ext H G H1 G' ∧ Same G' G2 ∧ ∀ H2 G3, Ext H1 G2 H2 G3 → ∃ G4, Ext H1 G' H2 G4 := by
  classical
  refine ⟨fun b => if ownAt σ δ b then none else G2 b, ⟨e.hh, fun b o q => ?_, fun b o q => ?_, fun b o q => ?_⟩, fun b o q => ?_, fun H2 G3 e2 => ⟨fun b => if ownAt σ δ b then none else G3 b, e2.hh, fun b o q => ?_, fun b o q => ?_, fun b o q => ?_⟩⟩
  · have hn : ¬ ownAt σ δ b := by
      rintro ⟨i, k0, ds, h1, h2⟩
      obtain ⟨a, xs, z1, z2, z3, _⟩ := R.own i ds h1
      rw [h2] at z1; cases z1
      rw [q] at z3; cases z3
    show (if ownAt σ δ b then none else G2 b) = some o
    rw [if_neg hn]; exact e.gg b o (s1 b o q)
  · have q : (if ownAt σ δ b then none else G2 b) = some o := q
    split at q
    · cases q
    · exact e.gh b o q
  · have q : (if ownAt σ δ b then none else G2 b) = some o := q
    split at q
    · cases q
    · rename_i hn
      rcases e.new b o q with z | z
      · rcases nw b o z with w | w
        · exact .inl w
        · exact absurd w hn
      · exact .inr z
  · have q : (if ownAt σ δ b then none else G2 b) = some o := q
    split at q
    · cases q
    · exact q
  · have q : (if ownAt σ δ b then none else G2 b) = some o := q
    show (if ownAt σ δ b then none else G3 b) = some o
    split at q
    · cases q
    · rename_i hn; rw [if_neg hn]; exact e2.gg b o q
  · have q : (if ownAt σ δ b then none else G3 b) = some o := q
    split at q
    · cases q
    · exact e2.gh b o q
  · have q : (if ownAt σ δ b then none else G3 b) = some o := q
    split at q
    · cases q
    · rename_i hn
      rcases e2.new b o q with z | z
      · exact .inl (by show (if ownAt σ δ b then none else G2 b) = some o; rw [if_neg hn]; exact z)
      · exact .inr z
theorem Rel.lent {B0 : Hp} (R : Rel X B G₀ σ H G δ) : ∃ G1, Rel X (fun _ => none) (fun _ => none) σ H G1 (M.share δ) ∧ Same G G1 ∧ (∀ b o, G1 b = some o → G b = some o ∨ ownAt σ δ b) := by
  obtain ⟨G1, R1, h1, h2, h3⟩ := R.share
  refine ⟨G1, ⟨⟨fun _ _ z => (by cases z), fun _ _ z => (by cases z), h2, fun _ _ _ => .inr rfl⟩, R1.len, R1.val, fun i k0 ds q => ?_, R1.apart⟩, h1, h3⟩
  obtain ⟨a, xs, z1, z2, z3, _, z4⟩ := R1.own i ds q
  exact ⟨a, xs, z1, z2, z3, rfl, z4⟩
theorem q_lentT (h : PT X e (tT X (fun _ => none) (fun _ => none) g)) : PT X e (tT X B G₀ (lentT g)) := by
  intro pins s σ H Q I ⟨G, δ, R, hw⟩
  obtain ⟨G1, R1, s1, nw⟩ := Rel.lent (B0 := B) R
  refine h pins s σ H Q I ⟨G1, M.share δ, R1, ?_⟩
  refine Rs.wp.mono hw (fun c xo => ?_) fun b q H1 G2 e1 => ?_
  · intro pins s' H1 G2 ev e1 I' x'
    obtain ⟨G', e', _, hb⟩ := back_ext R s1 nw e1
    rintro ⟨ea, C, Bk, H2, G3, z1, z2, z3, z4⟩
    obtain ⟨G4, e4⟩ := hb H2 G3 z3
    exact xo pins s' H1 G' ev e' I' x' ⟨ea, C, Bk, H2, G4, z1, z2, e4, z4⟩
  · obtain ⟨G', e', _⟩ := back_ext R s1 nw e1
    exact q H1 G' e'
theorem q_share (h : PS X st (tS X B G₀ F)) : PS X st (tS X B G₀ (shareS' F)) :=
  ps_imp h fun D' σ H ⟨G, δ, R, hw⟩ => by
    obtain ⟨G1, R1, _⟩ := R.share
    exact ⟨G1, M.share δ, R1, hw⟩
end
@[simp] theorem s_getO0 (ds : List D) (δ : DS) : getO (some (.own ds) :: δ) 0 = .ok ds := nodef rfl
@[simp] theorem s_getOs (x : Option Sl) (δ : DS) (i : Nat) : getO (x :: δ) (i + 1) = getO δ i := nodef rfl
@[simp] theorem s_ownS (i : Nat) (fr : FA) (δ : DS) : ownS i fr δ = (fr δ).out δ fun ds => if ds.length ≤ 1000 then .nx (δ.set i (some (.own ds))) else .bad := nodef rfl
@[simp] theorem s_mutS (i : Nat) (m : List D → List D → Rs (List D)) (fr : FA) (δ : DS) : mutS i m fr δ = (getO δ i >>= fun ds => fr δ >>= fun es => m ds es).out δ fun ys => .nx (δ.set i (some (.own ys))) := nodef rfl
@[simp] theorem s_mut0S (i : Nat) (m : List D → List D) (δ : DS) : mut0S i m δ = (getO δ i).out δ fun ds => .nx (δ.set i (some (.own (m ds)))) := nodef rfl
theorem s_appM {ds : List D} {d : D} (h : ds.length < 1000000) : appM ds [d] = .ok (ds ++ [d]) := by unfold appM; dsimp only; rw [if_pos h]
@[simp] theorem s_setiS (i : Nat) (fi fe : FE) (δ : DS) : setiS i fi fe δ = (fe δ >>= fun d => getO δ i >>= fun ds => fi δ >>= fun k => setM ds k d).out δ fun ys => .nx (δ.set i (some (.own ys))) := nodef rfl
@[simp] theorem s_lentT (g : FT) (δ : DS) : lentT g δ = g (share δ) := nodef rfl
@[simp] theorem s_lentE (fe : FE) (δ : DS) : lentE fe δ = (fe (share δ) >>= flatR) := nodef rfl
@[simp] theorem s_shareS (F : FS) (δ : DS) : shareS' F δ = F (share δ) := nodef rfl
@[simp] theorem s_share0 : share [] = [] := nodef rfl
@[simp] theorem s_shareN (δ : DS) : share (none :: δ) = none :: share δ := nodef rfl
@[simp] theorem s_shareV (d : D) (δ : DS) : share (some (.v d) :: δ) = some (.v d) :: share δ := nodef rfl
@[simp] theorem s_shareO (ds : List D) (δ : DS) : share (some (.own ds) :: δ) = some (.v (.lst ds)) :: share δ := nodef rfl
@[simp] theorem s_flI (i : Int) : flatR (.int i) = .ok (.int i) := nodef rfl
@[simp] theorem s_flS (i : Str) : flatR (.str i) = .ok (.str i) := nodef rfl
@[simp] theorem s_flB (i : Bool) : flatR (.bl i) = .ok (.bl i) := nodef rfl
@[simp] theorem s_flN : flatR .non = .ok .non := nodef rfl
end M

set_option Elab.async false
set_option linter.all false
set_option maxRecDepth 100000
set_option maxHeartbeats 4000000
namespace M
open PySem PySem.Spec PyProof.Rows L2
set_option autoImplicit false

noncomputable def enumD (ds : List D) : List D := (ds.zipIdx 0).map fun x => .tup [.int x.2, x.1]
noncomputable def enumF (fe : FE) : FA := fun δ => fe δ >>= fun d => match d with
  | .lst ds => .ok (enumD ds)
  | _ => .bad
section
variable {X : Cx} {B G₀ : Hp} {e : Expr} {fe : FE} {p pos : Pos} {elts : List Expr} {x1 : _} {tp : Pos}
end
noncomputable def enumR : D → Rs (List D)
  | .lst ds => .ok (enumD ds)
  | _ => .bad
@[simp] theorem s_enumF (fe : FE) (δ : DS) : enumF fe δ = (fe δ >>= enumR) := by
  unfold enumF
  cases fe δ with
  | ok d => cases d <;> rfl
  | exc c => rfl
  | bad => rfl
@[simp] theorem s_enumR (ds : List D) : enumR (.lst ds) = .ok (enumD ds) := nodef rfl
noncomputable def tgT (i j : Nat) (d : D) (δ : DS) : Option DS := match d with
  | .tup [a, b] => some ((δ.set i (some (.v a))).set j (some (.v b)))
  | _ => none
@[simp] theorem s_tgT (i j : Nat) (a b : D) (δ : DS) : tgT i j (.tup [a, b]) δ = some ((δ.set i (some (.v a))).set j (some (.v b))) := nodef rfl
end M

set_option Elab.async false
set_option linter.all false
set_option maxRecDepth 100000
set_option maxHeartbeats 4000000
namespace M
open PySem PySem.Spec PyProof.Rows L2
set_option autoImplicit false

noncomputable def compOk2 (sc scope : Scope) (N : List Str) (x y0 : Str) (fr : List (Str × Nat)) : Bool :=
  (scope.kind == .function) && (sc.kind == .function) && scope.names.all (fun y => !(y.2 == .cell)) && scope.names.all (fun y => !(y.2 == .local) || scope.names.lookup y.1 == some .local) &&
  scope.names.all (fun y => !(y.2 == .free) || (sc.names.lookup y.1 == some .cell || sc.names.lookup y.1 == some .free)) && (scope.names.lookup x == some .local) && (scope.names.lookup y0 == some .local) &&
  fr.all (fun y => scope.names.lookup y.1 == some .free && scope.names.contains (y.1, .free) && (sc.names.lookup y.1 == some .cell || sc.names.lookup y.1 == some .free) && N[y.2]? == some y.1) && decide ((x :: y0 :: fr.map (·.1)).Nodup)
structure CompOk2 (sc scope : Scope) (N : List Str) (x y0 : Str) (fr : List (Str × Nat)) : Prop where
  kind : scope.kind = .function
  skind : sc.kind = .function
  cell : ∀ y ∈ scope.names, y.2 ≠ .cell
  loc : ∀ y ∈ scope.names, y.2 = .local → scope.names.lookup y.1 = some .local
  free : ∀ y ∈ scope.names, y.2 = .free → sc.names.lookup y.1 = some .cell ∨ sc.names.lookup y.1 = some .free
  hx : scope.names.lookup x = some .local
  hy : scope.names.lookup y0 = some .local
  frs : ∀ y ∈ fr, scope.names.lookup y.1 = some .free ∧ (y.1, NameKind.free) ∈ scope.names ∧ (sc.names.lookup y.1 = some .cell ∨ sc.names.lookup y.1 = some .free) ∧ N[y.2]? = some y.1
  nd : (x :: y0 :: fr.map (·.1)).Nodup
theorem CompOk2.of {sc scope : Scope} {N : List Str} {x y0 : Str} {fr : List (Str × Nat)} (h : compOk2 sc scope N x y0 fr = true) : CompOk2 sc scope N x y0 fr := by
  unfold compOk2 at h
  simp only [Bool.and_eq_true, List.all_eq_true, Bool.or_eq_true, Bool.not_eq_true', beq_iff_eq, beq_eq_false_iff_ne, decide_eq_true_eq, List.contains_iff_mem, ne_eq] at h
  obtain ⟨⟨⟨⟨⟨⟨⟨⟨h1, h2⟩, h3⟩, h4⟩, h5⟩, h6⟩, h6'⟩, h7⟩, h8⟩ := h
  refine ⟨h1, h2, fun y hy => h3 y hy, fun y hy e => ?_, fun y hy e => ?_, h6, h6', fun y hy => ?_, h8⟩
  · rcases h4 y hy with q | q
    · exact absurd e q
    · exact q
  · rcases h5 y hy with q | q
    · exact absurd e q
    · exact q
  · obtain ⟨⟨⟨q1, q2⟩, q3⟩, q4⟩ := h7 y hy
    exact ⟨q1, q2, q3, q4⟩

noncomputable def compCx2 (X : Cx) (scope : Scope) (x y0 : Str) (fr : List (Str × Nat)) (C : Addr) (s₀ : Shared) (H₀ : Hp) (fp : List Addr) : Cx :=
  { X with N := x :: y0 :: fr.map (·.1), s₀ := s₀, H₀ := H₀, env := compEnvC scope (clOf X.env.cells scope.names []) C X.env, outer := X.stack, stack := X.stack, ex := fp, fn := fun _ => false, pn := [], xe := fun _ _ => False }
noncomputable def innerD2 (δ : DS) (fr : List (Str × Nat)) (v w : Option Sl) : DS := v :: w :: fr.map fun y => visS (δ[y.2]?).join
inductive Tst2 (X : Cx) (scope : Scope) (x y0 : Str) (fr : List (Str × Nat)) : List Expr → (DS → Rs Bool) → Prop
  | nil : Tst2 X scope x y0 fr [] fun _ => .ok true
  | one {c : Expr} {g : DS → Rs Bool} (h : ∀ C s₀ H₀ fp B G₀, PT (compCx2 X scope x y0 fr C s₀ H₀ fp) c (tT (compCx2 X scope x y0 fr C s₀ H₀ fp) B G₀ g)) : Tst2 X scope x y0 fr [c] g
theorem Tst2.run {X : Cx} {scope : Scope} {x y0 : Str} {fr : List (Str × Nat)} {ifs : List Expr} {g : DS → Rs Bool} (h : Tst2 X scope x y0 fr ifs g) {C : Addr} {s₀ : Shared} {H₀ : Hp} {fp : List Addr} {pins : List (Addr × Obj)} {s : Shared} {σ : St} {B G₀ H G : Hp} {δ : DS} {b : Bool} {Q : Bool → Shared → Prop}
    (I : Inv (compCx2 X scope x y0 fr C s₀ H₀ fp) pins σ H s) (R : Rel (compCx2 X scope x y0 fr C s₀ H₀ fp) B G₀ σ H G δ) (e : g δ = .ok b) (hQ : ∀ s' H' G', Inv (compCx2 X scope x y0 fr C s₀ H₀ fp) pins σ H' s' → Ext H G H' G' → Q b s') :
    wpAny (model X.prog X.w) X.A (forIn ifs true fun c r => if r = true then do let ok ← isTrue c (compCx2 X scope x y0 fr C s₀ H₀ fp).env (eval c (compCx2 X scope x y0 fr C s₀ H₀ fp).env); pure (ForInStep.yield ok) else pure (ForInStep.yield r)) Q (fun _ _ => False) s := by
  cases h with
  | nil =>
    cases e
    exact wpAny_tests_nil (hQ s H G I (Ext.refl R.ext.gh))
  | one h =>
    refine wpAny_tests_one (thn (h C s₀ H₀ fp B G₀ pins s σ H (fun b' H' => b' = b ∧ ∃ G', Ext H G H' G') I ⟨G, δ, R, ?_⟩) fun b' s' ⟨H', I', e1, G', e2⟩ => ?_)
    · rw [e]; exact fun H' G' e => ⟨rfl, G', e⟩
    · subst e1; exact hQ s' H' G' I' e2

noncomputable def onPair {α : Type} (f : D → D → Rs α) : D → Rs α
  | .tup [a, b] => f a b
  | _ => .bad
inductive CompI2 (X : Cx) (Y : Cx) (fp : List Addr) (tn : Nat → Heap → Prop) (inn : Option V → Option V → St) (cl : List D → Rs (List D)) (H2 G2 : Hp) (Dl : Addr) (ds all : List D) (n : Nat) (s' : Shared) : Prop
  | mk (k : Nat) (vx vw : Option V) (H' G' : Hp) (ys : List V) (es rest : List D) (h1 : k ≤ ds.length) (h2 : n = ds.length - k) (h3 : Inv Y [] (inn vx vw) H' s') (h4 : tn k s'.heap) (h5 : ∀ b ∈ fp, H' b = none)
      (h6 : Ext H2 G2 H' G') (h7 : G' Dl = none) (h8 : H' Dl = some (.lst ys)) (h9 : IsL X.K G' es ys) (h10 : es.length ≤ k) (h11 : cl (ds.drop k) = .ok rest) (h12 : all = es ++ rest)
noncomputable def compF2 (fr : List (Str × Nat)) (f : FA) (fe : FE) (gt : FT) : FE := fun δ => f δ >>= fun ds => bigR ds (compL (onPair fun a b => fe (innerD2 δ fr (some (.v a)) (some (.v b)))) (onPair fun a b => gt (innerD2 δ fr (some (.v a)) (some (.v b)))) ds)
@[simp] theorem s_compF2 (fe : FE) (gc : FT) (f : FA) (fn : List (Str × Nat)) (δ : DS) : compF2 fn f fe gc δ = (f δ >>= fun ds => bigR ds (compL (onPair fun a b => fe (innerD2 δ fn (some (.v a)) (some (.v b)))) (onPair fun a b => gc (innerD2 δ fn (some (.v a)) (some (.v b)))) ds)) := nodef rfl
@[simp] theorem s_innerD2 (δ : DS) (fn : List (Str × Nat)) (v w : Option Sl) : innerD2 δ fn v w = v :: w :: fn.map fun y => visS (δ[y.2]?).join := nodef rfl
@[simp] theorem s_onPair {α : Type} (f : D → D → Rs α) (a b : D) : onPair f (.tup [a, b]) = f a b := nodef rfl
end M

set_option Elab.async false
set_option linter.all false
set_option maxRecDepth 100000
set_option maxHeartbeats 4000000
namespace M
open PySem PySem.Spec PyProof.Rows L2
set_option autoImplicit false

noncomputable def ixO (i : Nat) (fi : FE) : FE := fun δ => getO δ i >>= fun ds => fi δ >>= fun k => idxR (.lst ds) k
section
variable {X : Cx} {B G₀ : Hp} {σ : St} {H G : Hp} {δ : DS} {e a b : Expr} {fe fa fb : FE} {x : Str} {pos pos' p : Pos}
theorem q_ixO (i : Nat) (he : PE X e (tE X B G₀ fe)) (hN : X.N[i]? = some x := by rfl) (hv : Vis X.env.scope x := by first | exact Or.inl rfl | exact Or.inr (Or.inl rfl) | exact Or.inr (Or.inr rfl)) (hdb : (x == ("__debug__" : Str)) = false := by decide) (hcd : (x == ("__classdict__" : Str)) = false := by decide)
    (hs : PlainIx e := by intro _ _; rfl) : PE X (.Subscript (.Name x p) e pos) (tE X B G₀ (ixO i fe)) := by
  refine pd_of (pe_ix ix_list (pe_var hN hv hdb hcd) he hs) fun σ H G δ Q R hw => ?_
  unfold W ixO at hw
  cases q : getO δ i with
  | exc c => exact (getO_ne q).elim
  | bad => rw [q] at hw; exact hw.elim
  | ok ds =>
    rw [q] at hw
    have hi := getO_ok q
    obtain ⟨a, xs, hσ, hH, hG, hB, hz, hI⟩ := R.own i ds hi
    refine ⟨.ref a, hσ, G, δ, R, ?_⟩
    have hw : (fe δ >>= fun k => idxR (.lst ds) k).wp _ _ := hw
    rw [wp_bind] at hw
    refine Rs.wp.mono hw (fun _ x => x) fun kd hk kv H1 G1 e1 i1 => ?_
    cases kd with
    | int k =>
      cases (show kv = .int k from i1)
      cases q2 : atI ds k with
      | none =>
        have : idxR (.lst ds) (.int k) = .bad := by show (match atI ds k with | some d => Rs.ok d | none => .bad) = _; rw [q2]
        rw [this] at hk; exact hk.elim
      | some d =>
        have e2 : idxR (.lst ds) (.int k) = .ok d := by show (match atI ds k with | some d => Rs.ok d | none => .bad) = _; rw [q2]
        rw [e2] at hk
        obtain ⟨v, hv, iv⟩ := (hI.same e1.gg).atI q2
        exact ⟨a, xs, k, v, rfl, rfl, SqL.of (e1.hh _ _ hH), hv, hk v H1 G1 e1 iv⟩
    | _ => exact hk.elim
end
@[simp] theorem s_ixO (i : Nat) (fi : FE) (δ : DS) : ixO i fi δ = (getO δ i >>= fun ds => fi δ >>= fun k => idxR (.lst ds) k) := nodef rfl
end M

set_option Elab.async false
set_option linter.all false
set_option maxRecDepth 100000
set_option maxHeartbeats 4000000
namespace M
open PySem PySem.Spec PyProof.Rows L2
set_option autoImplicit false

@[simp] theorem s_shareC (x : Option Sl) (δ : DS) : share (x :: δ) = shareS x :: share δ := nodef rfl
@[simp] theorem s_shS0 : shareS none = none := nodef rfl
@[simp] theorem s_shSv (d : D) : shareS (some (.v d)) = some (.v d) := nodef rfl
@[simp] theorem s_shSo (ds : List D) : shareS (some (.own ds)) = some (.v (.lst ds)) := nodef rfl
noncomputable def sumTR : List D → Rs D
  | [.tup ds] => match intsOf ds with
    | some ns => if (ns.all inSum && decide (ns.length ≤ 1000000)) = true then .ok (.int ns.sum) else .bad
    | none => .bad
  | _ => .bad
noncomputable def sumAR (ds : List D) : Rs D := match ds with
  | [.tup es] => sumTR [.tup es]
  | ds => sumR ds
@[simp] theorem s_sumAL (ds : List D) : sumAR [.lst ds] = sumR [.lst ds] := nodef rfl
noncomputable def MtS (X : Cx) (id : String) (g : Str → List D → Rs D) : Prop :=
  ∀ (pins : List (Addr × Obj)) (s : Shared) (σ : St) (H G : Hp) (Q : VK) (z : Str) (t : Tok) (ds : List D) (vs : List V) (us : List Value), Inv X pins σ H s → Same G H → Vals vs us → z.length ≤ sizeLine → PyData.strOk z = true → IsL X.K G ds vs → W X Q σ H G (g z ds) →
    wpAny (model X.prog X.w) X.A (call (.builtin id) (.str z t :: us)) (EP X pins σ Q) X.xe s
noncomputable def methR (g : Str → List D → Rs D) (r : Rs (List D)) : D → Rs D
  | .str z => r >>= g z
  | _ => .bad
noncomputable def methF (g : Str → List D → Rs D) (fo : FE) (fr : FA) : FE := fun δ => fo δ >>= methR g (fr δ)
section
variable {X : Cx} {B G₀ : Hp} {o e : Expr} {es : List Expr} {fo : FE} {fr : FA} {apos pos : Pos} {name : Str} {id : String} {g : Str → List D → Rs D}
theorem q_meth (slot : Slot "str" name id) (hty : typeOf (.builtin id) = pure (.type "method_descriptor")) (hm : MtS X id g) (ho : PE X o (tE X B G₀ fo)) (ha : PA X (e :: es) (tAs X B G₀ fr))
    (hbase : attributeBase o name X.env (eval o X.env) = eval o X.env := by rfl)
    (hfew : ((backTo pos (starEach (e :: es) X.env)).all (fun x => !x.1) && (backToKw pos (keywordEach [] X.env)).all (fun x => x.1.isSome)
      && decide ((e :: es).length + ([] : List Keyword).length + (if ([] : List Keyword).isEmpty then 0 else 1) < 30)) = true := by rfl)
    (hline : (apos.endLine == pos.line) = true := by rfl) (hs : starEach (e :: es) X.env = (false, eval e X.env) :: starEach es X.env := by rfl) (hplain : (backTo pos (starEach es X.env)).any (·.1) = false := by rfl) :
    PE X (.Call (.Attribute o name apos) (e :: es) [] pos) (tE X B G₀ (methF g fo fr)) := by
  intro pins s σ H Q I ⟨G, δ, R, hw⟩
  refine wpAny_Call_method_late hbase hfew hline rfl (bindE ho I R hw fun d u v s1 H1 G1 I1 R1 r1 e1 i1 hw1 => ?_)
  cases d with
  | str z =>
    obtain ⟨rfl, hz, hok⟩ := i1
    obtain ⟨t, rfl⟩ := r1
    obtain ⟨h1, h2⟩ := tyV_is (T := "str") I1 (show RelV (.str z) (.str z t) from ⟨t, rfl⟩) rfl
    refine ⟨"str", id, PySem.F.plainAttrs_str, slot, hty, h1, h2, ?_⟩
    have hw1 : (fr δ >>= g z).wp (fun c => Xo X c σ H1 G1) fun d => ∀ v H' G', Ext H G H' G' → Is X.K G' d v → Q v H' := hw1
    have hA := bindA (pos := pos) ha I1 R1 hw1 (Post := fun us s2 => wpAny (model X.prog X.w) X.A (call (.builtin id) (.str z t :: us)) (EP X pins σ Q) X.xe s2) fun ds us vs s2 H2 G2 I2 R2 r2 e2 i2 hw2 =>
      hm pins s2 σ H2 G2 Q z t ds vs us I2 R2.ext.gh r2 hz hok i2 (wmono hw2 (e1.trans e2))
    rw [hs] at hA ⊢
    exact Calls.callWith_builtin (by show (false || (backTo pos (starEach es X.env)).any (·.1)) = false; rw [hplain] <;> rfl) (Calls.evalArgs_plain hA)
  | _ => exact hw1.elim
end
noncomputable def catS (ys : List Str) : Str := ⟨(ys.map fun y => y.cps.toList).flatten.toArray⟩
noncomputable def joinR (z : Str) : List D → Rs D
  | [.lst ds] => match strsOf ds with
    | some ys => if z = Str.ofString "" ∧ (ys.map (·.length)).sum ≤ 1000000 then .ok (.str (catS ys)) else .bad
    | none => .bad
  | _ => .bad
theorem join_empty : ∀ ys : List Str, Str.join (Str.ofString "") ys = catS ys
  | [] => rfl
  | [x] => by simp [Str.join, catS]
  | x :: y :: r => by
    have ih := join_empty (y :: r)
    show x ++ Str.ofString "" ++ Str.join (Str.ofString "") (y :: r) = _
    rw [ih]
    have e : ∀ a b : Str, a ++ b = ⟨a.cps ++ b.cps⟩ := fun _ _ => rfl
    rw [e, e]
    have e0 : (Str.ofString "").cps = #[] := rfl
    unfold catS
    simp [e0]
theorem catS_len (ys : List Str) : (catS ys).length = (ys.map (·.length)).sum := by
  unfold catS Str.length
  simp [List.length_flatten, Function.comp_def]
theorem catS_ok {ys : List Str} (h : ∀ y ∈ ys, PyData.strOk y = true) : PyData.strOk (catS ys) = true := by
  unfold PyData.strOk
  rw [Array.all_eq_true_iff_forall_mem]
  intro c hc
  unfold catS at hc
  have hc : c ∈ (ys.map fun y => y.cps.toList).flatten := by simpa using hc
  rw [List.mem_flatten] at hc
  obtain ⟨l, hl, hcl⟩ := hc
  obtain ⟨y, hy, rfl⟩ := List.mem_map.mp hl
  have := h y hy
  unfold PyData.strOk at this
  exact Array.all_eq_true_iff_forall_mem.mp this c (by simpa using hcl)
theorem mts_join {X : Cx} : MtS X "str.join" joinR := by
  intro pins s σ H G Q z t ds vs us I gh r hz hok i hw
  unfold joinR at hw
  split at hw
  · rename_i ds2
    split at hw
    · rename_i ys hs
      obtain ⟨⟨hz0, hlen⟩, hw2⟩ := wIf (r := .ok (.str (catS ys))) (c := z = Str.ofString "" ∧ (ys.map (·.length)).sum ≤ 1000000) hw
      subst hz0
      obtain ⟨v, rfl, a, xs, rfl, h1, h2, h3⟩ := isL1 i
      obtain ⟨u, rfl, ru⟩ := vals1 r
      cases ru
      obtain ⟨its, rv, pl, hzz⟩ := I.list (gh.seq h1)
      obtain ⟨hA, hB⟩ := strs_get hs h3 rv
      have h0 : (Str.ofString "").length = 0 := rfl
      refine join_list (ys := ys) pl.isList (by simpa using hA) (by rw [h0, Nat.mul_zero]; omega) fun t' k => ?_
      have e : Txt.join (Str.ofString "") ys = catS ys := by
        show Builtin.Str.glued _ _ = _
        rw [StrLaws.glued_eq_join, join_empty]
      rw [e]
      refine ⟨.str (catS ys), H, I.tok k, ⟨t', rfl⟩, wOk hw2 gh ⟨rfl, ?_, catS_ok hB⟩⟩
      rw [catS_len]
      have := million
      omega
    · exact hw.elim
  · exact hw.elim
@[simp] theorem s_methF (g : Str → List D → Rs D) (fo : FE) (fr : FA) (δ : DS) : methF g fo fr δ = (fo δ >>= methR g (fr δ)) := nodef rfl
@[simp] theorem s_methR (g : Str → List D → Rs D) (r : Rs (List D)) (z : Str) : methR g r (.str z) = (r >>= g z) := nodef rfl
theorem s_join {α : Type} {xs : List α} {f : α → Str} (h : ((xs.map f).map (·.length)).sum ≤ 1000000) : joinR (Str.ofString "") [.lst (xs.map fun x => D.str (f x))] = .ok (.str (catS (xs.map f))) := by
  unfold joinR
  dsimp only
  rw [strsOf_map]
  dsimp only
  rw [if_pos ⟨rfl, h⟩]
end M

set_option Elab.async false
set_option linter.all false
set_option maxRecDepth 100000
set_option maxHeartbeats 4000000
namespace M
open PySem PySem.Spec PyProof.Rows L2
set_option autoImplicit false

noncomputable def chainT (g g' : D → D → Rs D) (fa fb fc : FE) : FT := fun δ => chainV g g' fa fb fc δ >>= fun d => truR d
@[simp] theorem s_chainT (g g' : D → D → Rs D) (fa fb fc : FE) (δ : DS) : chainT g g' fa fb fc δ = (chainV g g' fa fb fc δ >>= fun d => truR d) := nodef rfl
end M

set_option Elab.async false
set_option linter.all false
set_option maxRecDepth 100000
set_option maxHeartbeats 4000000
namespace M
open PySem PySem.Spec PyProof.Rows L2
set_option autoImplicit false

noncomputable def shareAt (j : Nat) (δ : DS) : DS := match δ[j]? with
  | some (some (.ow k ds)) => δ.set j (some (.v (k.dat ds)))
  | _ => δ
theorem Rel.shareAt {X : Cx} {B G₀ : Hp} {σ : St} {H G : Hp} {δ : DS} (R : Rel X B G₀ σ H G δ) (j : Nat) : ∃ G1, Rel X B G₀ σ H G1 (M.shareAt j δ) := by
  unfold M.shareAt
  split
  · rename_i kd ds hj
    obtain ⟨a, xs, hσ, hH, hG, hB, hz, hI⟩ := R.own j ds hj
    have hlt : j < δ.length := (List.getElem?_eq_some_iff.mp hj).1
    have gg : Same G (upd G a (kd.obj xs)) := same_upd hG _
    have gh : Same (upd G a (kd.obj xs)) H := fun b o q => by
      by_cases hb : b = a
      · subst hb; rw [upd_same] at q; cases q; exact hH
      · rw [upd_ne hb] at q; exact R.ext.gh b o q
    refine ⟨upd G a (kd.obj xs), ⟨R.ext.hh, R.ext.gg.trans gg, gh, fun b o q => ?_⟩, by simp [R.len], fun i d q => ?_, fun i kA es q => ?_, fun i k kB kC es fs b q1 q2 q3 q4 => ?_⟩
    · by_cases hb : b = a
      · subst hb; exact .inr hB
      · rw [upd_ne hb] at q; exact R.ext.new b o q
    · by_cases hi : j = i
      · subst hi
        rw [List.getElem?_set] at q
        simp only [if_true] at q
        rw [if_pos hlt] at q
        cases q
        cases kd with
        | l => exact ⟨.ref a, hσ, a, xs, rfl, .of upd_same, hz, hI.same gg⟩
        | d ks => exact ⟨.ref a, hσ, a, xs, rfl, upd_same, hz, hI.same gg⟩
        | t ks => exact ⟨.ref a, hσ, a, xs, rfl, upd_same, hz, hI.same gg⟩
      · rw [List.getElem?_set_ne hi] at q
        obtain ⟨v, h1, h2⟩ := R.val i d q
        exact ⟨v, h1, h2.same gg⟩
    · by_cases hi : j = i
      · subst hi
        rw [List.getElem?_set] at q
        simp only [if_true] at q
        rw [if_pos hlt] at q
        cases q
      · rw [List.getElem?_set_ne hi] at q
        obtain ⟨c, ys, z1, z2, z3, z4, z5, z6⟩ := R.own i es q
        refine ⟨c, ys, z1, z2, ?_, z4, z5, z6.same gg⟩
        rw [upd_ne]; exact z3
        rintro rfl
        exact hi (R.apart j i ds es _ hj q hσ z1)
    · have ne : ∀ {i : Nat} {kD : Kd} {es : List D}, (δ.set j (some (.v (kd.dat ds))))[i]? = some (some (.ow kD es)) → δ[i]? = some (some (.ow kD es)) := fun {i kD es} q => by
        by_cases hi : j = i
        · subst hi
          rw [List.getElem?_set] at q
          simp only [if_true] at q
          rw [if_pos hlt] at q
          cases q
        · rw [List.getElem?_set_ne hi] at q; exact q
      exact R.apart i k es fs b (ne q1) (ne q2) q3 q4
  · exact ⟨G, R⟩
noncomputable def shareJ (j : Nat) (F : FS) : FS := fun δ => F (shareAt j δ)
structure ExtM (a : Addr) (H G H' G' : Hp) : Prop where
  hh : ∀ b o, b ≠ a → H b = some o → H' b = some o
  gg : Same G G'
  gh : Same G' H'
  new : ∀ b o, G' b = some o → G b = some o ∨ H b = none
inductive SpM (K : PySem.W.Frag) (g : List D → List D → Rs (List D)) (n : Nat) (vs : List V) (H : Hp) (Q : VK) : Prop
  | mk (a : Addr) (vs' : List V) (G : Hp) (xs : List V) (ds0 ds : List D) (e : vs = .ref a :: vs') (h1 : H a = some (.lst xs)) (h2 : G a = none) (h3 : xs.length ≤ sizeLine) (h4 : IsL K G ds0 xs) (h5 : Same G H) (h6 : IsL K G ds vs') (h7 : ds.length = n)
    (h8 : (g ds0 ds).wp (fun _ => False) fun ys => ∀ zs H' G', ExtM a H G H' G' → zs.length ≤ sizeLine → IsL K G' ys zs → H' a = some (.lst zs) → Q .non H')
noncomputable def spM (K : PySem.W.Frag) (g : List D → List D → Rs (List D)) (n : Nat) : Sp := fun vs H Q _ => SpM K g n vs H Q
noncomputable def finM (o : Out) : Rs (List D) := match o with
  | .nx δ => getO δ 0
  | _ => .bad
noncomputable def fnM (n m : Nat) (F : FS) (ds0 ds : List D) : Rs (List D) := if ds.length = n then finM (F (some (.own ds0) :: (ds.map vsl ++ List.replicate m none))) else .bad
structure FnMut (P : Program) (w : World) (K : PySem.W.Frag) (mg : Str → Option Value) (base : Heap) (x : Str) (k n : Nat) (g : List D → List D → Rs (List D)) : Prop where
  ex : ∃ (f : Addr) (fd : FuncData) (ps : List Str), FnOk P w K mg base CX0 k f fd ps (spM K g n) ∧ Binds K fd ps [] ∧ mg x = some (.ref f) ∧ PySem.W.keepIn K (.ref f) = true
  len : ∀ ds0 ds, ds.length ≠ n → g ds0 ds = .bad
  ne : ∀ ds0 ds c, g ds0 ds ≠ .exc c

section
variable {X : Cx} {B G₀ : Hp} {σ₀ : St} {c e : Expr} {es : List Expr} {gc : FT} {fr : FA} {fe : FE} {sts sts' rest : List Stmt} {st : Stmt} {F F1 F2 : FS} {pos pos' p apos : Pos} {x : Str}
end
section
variable {P : Program} {w : World} {K : PySem.W.Frag} {mg : Str → Option Value} {base : Heap}
open Classical in
noncomputable def without (H : Hp) (a : Addr) : Hp := fun b => if b = a then none else H b
end
section
variable {X : Cx} {B G₀ : Hp} {x y : Str} {k n : Nat} {g : List D → List D → Rs (List D)} {e : Expr} {es : List Expr} {fr : FA} {p p2 pos pos' : Pos}
end
@[simp] theorem s_shareJ (j : Nat) (F : FS) (δ : DS) : shareJ j F δ = F (shareAt j δ) := nodef rfl
@[simp] theorem s_shA0o (ds : List D) (δ : DS) : shareAt 0 (some (.own ds) :: δ) = some (.v (.lst ds)) :: δ := nodef rfl
@[simp] theorem s_shAs (x : Option Sl) (δ : DS) (j : Nat) : shareAt (j + 1) (x :: δ) = x :: shareAt j δ := by
  unfold shareAt
  rw [List.getElem?_cons_succ]
  cases h : δ[j]? with
  | none => rfl
  | some s => cases s with
    | none => rfl
    | some s => cases s with
      | v d => rfl
      | ow k ds => rfl
@[simp] theorem s_fnM1 (m : Nat) (F : FS) (ds0 : List D) (a : D) : fnM 1 m F ds0 [a] = finM (F (some (.own ds0) :: some (.v a) :: List.replicate m none)) := nodef rfl
@[simp] theorem s_finM (δ : DS) : finM (.nx δ) = getO δ 0 := nodef rfl
end M

set_option Elab.async false
set_option linter.all false
set_option maxRecDepth 100000
set_option maxHeartbeats 4000000
namespace M
open PySem PySem.Spec PyProof.Rows L2
set_option autoImplicit false

noncomputable def listAR (ds : List D) : Rs D := match ds with
  | [.str z] => .ok (.lst (signsD z))
  | ds => listR ds
@[simp] theorem s_listS (z : Str) : listAR [.str z] = .ok (.lst (signsD z)) := nodef rfl
@[simp] theorem s_listL (z : List D) : listAR [.lst z] = .ok (.lst z) := nodef rfl
@[simp] theorem s_listT (z : List D) : listAR [.tup z] = .ok (.lst z) := nodef rfl
end M

set_option Elab.async false
set_option linter.all false
set_option maxRecDepth 100000
set_option maxHeartbeats 4000000
namespace M
open PySem PySem.Spec PyProof.Rows L2
set_option autoImplicit false

structure Grp (K : PySem.W.Frag) (B : Hp) (a : Addr) (bs : List Addr) (dss : List (List D)) (H G : Hp) : Prop where
  ha : H a = some (.lst (bs.map V.ref))
  ga : G a = none
  ba : B a = none
  len : bs.length = dss.length
  el : ∀ (j : Nat) (b : Addr) (ds : List D), bs[j]? = some b → dss[j]? = some ds → ∃ xs, H b = some (.lst xs) ∧ xs.length ≤ sizeLine ∧ IsL K G ds xs ∧ G b = none ∧ B b = none
  nd : (a :: bs).Nodup
theorem ext_none {H G H1 G1 : Hp} (e : Ext H G H1 G1) {b : Addr} (g : G b = none) (h : ∃ o, H b = some o) : G1 b = none := by
  cases q : G1 b with
  | none => rfl
  | some o =>
    obtain ⟨o', h⟩ := h
    rcases e.new b o q with z | z
    · rw [g] at z; cases z
    · rw [h] at z; cases z
theorem Grp.mono {K : PySem.W.Frag} {B : Hp} {a : Addr} {bs : List Addr} {dss : List (List D)} {H G H1 G1 : Hp} (g : Grp K B a bs dss H G) (e : Ext H G H1 G1) : Grp K B a bs dss H1 G1 :=
  ⟨e.hh _ _ g.ha, ext_none e g.ga ⟨_, g.ha⟩, g.ba, g.len, fun j b ds h1 h2 => by
    obtain ⟨xs, z1, z2, z3, z4, z5⟩ := g.el j b ds h1 h2
    exact ⟨xs, e.hh _ _ z1, z2, z3.same e.gg, ext_none e z4 ⟨_, z1⟩, z5⟩, g.nd⟩
noncomputable def noOwn (δ : DS) : Bool := δ.all fun s => match s with
  | some (.ow _ _) => false
  | _ => true
theorem noOwn_no {δ : DS} (h : noOwn δ = true) {i : Nat} {k : Kd} {ds : List D} : δ[i]? ≠ some (some (.ow k ds)) := fun e => by
  unfold noOwn at h
  have := List.all_eq_true.mp h _ (List.mem_of_getElem? e)
  cases this
theorem noOwn_set {δ : DS} (h : noOwn δ = true) (i : Nat) (d : D) : noOwn (δ.set i (some (.v d))) = true := by
  unfold noOwn at h ⊢
  rw [List.all_eq_true] at h ⊢
  intro s hs
  rcases List.mem_or_eq_of_mem_set hs with z | z
  · exact h s z
  · rw [z]
theorem Rel.bare {X : Cx} {B G₀ : Hp} {σ : St} {H G : Hp} {δ : DS} (R : Rel X B G₀ σ H G δ) (n : noOwn δ = true) : Rel X (fun _ => none) (fun _ => none) σ H G δ :=
  ⟨⟨fun _ _ z => (by cases z), fun _ _ z => (by cases z), R.ext.gh, fun _ _ _ => .inr rfl⟩, R.len, R.val, fun i k ds q => (noOwn_no n q).elim, fun i j k k' ds es a q => (noOwn_no n q).elim⟩
noncomputable def appLast (dss : List (List D)) (e : D) : Option (List (List D)) := match dss.getLast? with
  | some l => if l.length < 1000000 then some (dss.dropLast ++ [l ++ [e]]) else none
  | none => none
noncomputable def grpO (k : Nat) (gt : FT) (fe : FE) : List D → DS → List (List D) → Rs (DS × List (List D))
  | [], δ, dss => .ok (δ, dss)
  | d :: ds, δ, dss => match gt (δ.set k (some (.v d))) with
    | .ok true => match fe (δ.set k (some (.v d))) with
      | .ok e => match appLast dss e with
        | some dss' => grpO k gt fe ds (δ.set k (some (.v d))) dss'
        | none => .bad
      | _ => .bad
    | .ok false => match fe (δ.set k (some (.v d))) with
      | .ok e => if dss.length < 1000000 then grpO k gt fe ds (δ.set k (some (.v d))) (dss ++ [[e]]) else .bad
      | _ => .bad
    | _ => .bad
section
variable {X : Cx} {B G₀ : Hp} {σ : St} {H G : Hp} {δ : DS}
theorem Grp.push {a : Addr} {bs : List Addr} {dss : List (List D)} (g : Grp X.K B a bs dss H G) (gh : Same G H) (bh : Same B H) {p : Addr} {v : V} {d : D} (hp : H p = none) (i : Is X.K G d v) :
    Grp X.K B a (bs ++ [p]) (dss ++ [[d]]) (upd (upd H p (.lst [v])) a (.lst (bs.map V.ref ++ [.ref p]))) G := by
  have hpa : p ≠ a := fun z => by rw [z, g.ha] at hp; cases hp
  have hab : ∀ b ∈ bs, b ≠ a := fun b hb z => (List.nodup_cons.mp g.nd).1 (z ▸ hb)
  have hpb : p ∉ bs := fun hb => by
    obtain ⟨j, hj⟩ := List.getElem?_of_mem hb
    obtain ⟨hj1, _⟩ := List.getElem?_eq_some_iff.mp hj
    obtain ⟨dj, hj2⟩ : ∃ dj, dss[j]? = some dj := ⟨_, List.getElem?_eq_getElem (show j < dss.length by rw [← g.len]; exact hj1)⟩
    obtain ⟨xs, z1, _⟩ := g.el j p _ hj hj2
    rw [hp] at z1; cases z1
  refine ⟨by rw [upd_same, List.map_append]; rfl, g.ga, g.ba, by simp [g.len], fun j b ds h1 h2 => ?_, ?_⟩
  · by_cases hj : j < bs.length
    · rw [List.getElem?_append_left hj] at h1
      rw [List.getElem?_append_left (by rw [← g.len]; exact hj)] at h2
      obtain ⟨xs, z1, z2⟩ := g.el j b ds h1 h2
      refine ⟨xs, ?_, z2⟩
      have hb := List.mem_of_getElem? h1
      rw [upd_ne (hab b hb), upd_ne (fun z => by rw [z] at hb; exact hpb hb)]; exact z1
    · have hj' : j = bs.length := by
        have := (List.getElem?_eq_some_iff.mp h1).1
        simp at this; omega
      subst hj'
      rw [List.getElem?_concat_length] at h1
      rw [g.len, List.getElem?_concat_length] at h2
      cases h1; cases h2
      refine ⟨[v], by rw [upd_ne hpa, upd_same], (by show 1 ≤ sizeLine; decide), IsL.one i, gh.free hp, bh.free hp⟩
  · rw [← List.cons_append]
    refine List.nodup_append.mpr ⟨g.nd, by simp, fun x hx y hy => ?_⟩
    rw [List.mem_singleton.mp hy]
    rintro rfl
    rcases List.mem_cons.mp hx with z | z
    · exact hpa z
    · exact hpb z
open Classical in
theorem Grp.share {a : Addr} {bs : List Addr} {dss : List (List D)} (g : Grp X.K B a bs dss H G) (R : Rel X B G₀ σ H G δ) (n : noOwn δ = true) (hz : bs.length ≤ sizeLine) {i : Nat} (hσ : σ[i]? = some (some (.ref a))) (hi : i < δ.length) :
    ∃ G', Rel X B G₀ σ H G' (δ.set i (some (.v (.lst (dss.map D.lst))))) := by
  have gbs : ∀ b ∈ bs, G b = none ∧ B b = none := fun b hb => by
    obtain ⟨j, hj⟩ := List.getElem?_of_mem hb
    obtain ⟨hj1, _⟩ := List.getElem?_eq_some_iff.mp hj
    obtain ⟨dj, hj2⟩ : ∃ dj, dss[j]? = some dj := ⟨_, List.getElem?_eq_getElem (show j < dss.length by rw [← g.len]; exact hj1)⟩
    obtain ⟨xs, _, _, _, z4, z5⟩ := g.el j b _ hj hj2
    exact ⟨z4, z5⟩
  have gal : ∀ b ∈ a :: bs, G b = none ∧ B b = none := fun b hb => by
    rcases List.mem_cons.mp hb with z | z
    · rw [z]; exact ⟨g.ga, g.ba⟩
    · exact gbs b z
  let G' : Hp := fun b => if b ∈ a :: bs then H b else G b
  have gg : Same G G' := fun b o q => by
    show (if b ∈ a :: bs then H b else G b) = some o
    rw [if_neg fun z => by rw [(gal b z).1] at q; cases q]; exact q
  have gh : Same G' H := fun b o q => by
    have q : (if b ∈ a :: bs then H b else G b) = some o := q
    split at q
    · exact q
    · exact R.ext.gh b o q
  have at_ : ∀ b ∈ a :: bs, G' b = H b := fun b hb => if_pos hb
  have hIs : Is X.K G' (.lst (dss.map D.lst)) (.ref a) := by
    refine ⟨a, bs.map V.ref, rfl, .of (by rw [at_ a (List.mem_cons_self ..)]; exact g.ha), by rw [List.length_map]; exact hz, ?_⟩
    have key : ∀ (bs' : List Addr) (dss' : List (List D)), bs'.length = dss'.length → (∀ (j : Nat) (b : Addr) (ds : List D), bs'[j]? = some b → dss'[j]? = some ds → Is X.K G' (.lst ds) (.ref b)) → IsL X.K G' (dss'.map D.lst) (bs'.map V.ref) := by
      intro bs'
      induction bs' with
      | nil => intro dss' hl _; rw [List.length_eq_zero_iff.mp hl.symm]; rfl
      | cons b bs' ih =>
        intro dss' hl h
        cases dss' with
        | nil => simp at hl
        | cons ds dss' => exact .cons (h 0 b ds rfl rfl) (ih dss' (by simpa using hl) fun j c es e1 e2 => h (j + 1) c es (by simpa using e1) (by simpa using e2))
    refine key bs dss g.len fun j b ds h1 h2 => ?_
    obtain ⟨xs, z1, z2, z3, _⟩ := g.el j b ds h1 h2
    exact ⟨b, xs, rfl, .of (by rw [at_ b (List.mem_cons_of_mem _ (List.mem_of_getElem? h1))]; exact z1), z2, z3.same gg⟩
  refine ⟨G', ⟨⟨R.ext.hh, R.ext.gg.trans gg, gh, fun b o q => ?_⟩, by simp [R.len], fun j d q => ?_, fun j kA ds q => ?_, fun j k kB kC ds es c q => ?_⟩⟩
  · have q : (if b ∈ a :: bs then H b else G b) = some o := q
    split at q
    · rename_i hb; exact .inr (gal b hb).2
    · exact R.ext.new b o q
  · by_cases hj : i = j
    · subst hj
      rw [List.getElem?_set] at q
      simp only [if_true] at q
      rw [if_pos hi] at q
      cases q
      exact ⟨.ref a, hσ, hIs⟩
    · rw [List.getElem?_set_ne hj] at q
      obtain ⟨v, h1, h2⟩ := R.val j d q
      exact ⟨v, h1, h2.same gg⟩
  · exact (noOwn_no (noOwn_set n i _) q).elim
  · exact (noOwn_no (noOwn_set n i _) q).elim
end
section
variable {X : Cx} {B G₀ : Hp}
inductive GrpI (X : Cx) (B G1 : Hp) (δe : DS) (dsse : List (List D)) (a : Addr) (g k : Nat) (gt : FT) (fe : FE) (ds : List D) (i : Nat) (σ : St) (H : Hp) : Prop
  | mk (G : Hp) (δ : DS) (bs : List Addr) (dss : List (List D)) (h1 : Rel X B G1 σ H G δ) (h2 : noOwn δ = true) (h3 : δ.length = δe.length) (h4 : σ[g]? = some (some (.ref a))) (h5 : Grp X.K B a bs dss H G) (h6 : bs.length ≤ sizeLine) (h7 : grpO k gt fe (ds.drop i) δ dss = .ok (δe, dsse))
end
end M

set_option Elab.async false
set_option linter.all false
set_option maxRecDepth 100000
set_option maxHeartbeats 4000000
namespace M
open PySem PySem.Spec PyProof.Rows L2
set_option autoImplicit false

noncomputable def findR (z : Str) : List D → Rs D
  | [.str y, .int i] => .ok (.int (PySem.Txt.find3 z y i))
  | _ => .bad
@[simp] theorem s_findR (z y : Str) (i : Int) : findR z [.str y, .int i] = .ok (.int (PySem.Txt.find3 z y i)) := nodef rfl
noncomputable def inSB (y x : Str) : Bool := !(Builtin.Str.occurrences x y 0 x.length 1).isEmpty
noncomputable def inR : D → D → Rs D
  | .str y, .str x => .ok (.bl (inSB y x))
  | _, _ => .bad
theorem od_in {X : Cx} : OpD X (compareOp .In) inR := opD_of op_in_str fun σ H G Q d1 d2 x y gh i1 i2 hw => by
  cases d1 with
  | str a => cases d2 with
    | str b =>
      obtain ⟨rfl, _, _⟩ := i1
      obtain ⟨rfl, _, _⟩ := i2
      exact ⟨a, b, rfl, rfl, wOk hw gh rfl⟩
    | _ => exact hw.elim
  | _ => cases d2 <;> exact hw.elim
@[simp] theorem s_inR (y x : Str) : inR (.str y) (.str x) = .ok (.bl (inSB y x)) := nodef rfl
noncomputable def ownSlS (i : Nat) (fe : FE) (fl fh : FP) : FS := fun δ => (slF fe fl fh δ).out δ fun d => match d with
  | .lst ds => .nx (δ.set i (some (.own ds)))
  | _ => .bad
section
variable {X : Cx} {B G₀ : Hp} {σ : St} {H G : Hp} {δ : DS} {D' : Ends} {e : Expr} {lo hi : Option Expr} {fe : FE} {fl fh : FP} {x : Str} {pos pos' p2 p3 : Pos}
end
@[simp] theorem s_ownSlS (i : Nat) (fe : FE) (fl fh : FP) (δ : DS) : ownSlS i fe fl fh δ = (slF fe fl fh δ).out δ fun d => match d with | .lst ds => .nx (δ.set i (some (.own ds))) | _ => .bad := nodef rfl
end M

set_option Elab.async false
set_option linter.all false
set_option maxRecDepth 100000
set_option maxHeartbeats 4000000
namespace M
open PySem PySem.Spec PyProof.Rows L2
set_option autoImplicit false

noncomputable def maxI : List Int → Int
  | [] => 0
  | [x] => x
  | x :: r => max x (maxI r)
noncomputable def maxLR : List D → Rs D
  | [.lst ds] => match intsOf ds with
    | some ns => if ns ≠ [] then .ok (.int (maxI ns)) else .bad
    | none => .bad
  | _ => .bad
noncomputable def maxAR (ds : List D) : Rs D := match ds with
  | [.lst es] => maxLR [.lst es]
  | ds => maxR ds
@[simp] theorem s_maxA2 (i j : Int) : maxAR [.int i, .int j] = .ok (.int (if j > i then j else i)) := nodef rfl
end M

set_option Elab.async false
set_option linter.all false
set_option maxRecDepth 100000
set_option maxHeartbeats 4000000
namespace M
open PySem PySem.Spec PyProof.Rows L2
set_option autoImplicit false

noncomputable def keyD : D → Option Key
  | .int i => some (.inl i)
  | .str x => some (.inr x)
  | _ => none
theorem is_key {K : PySem.W.Frag} {G : Hp} {d : D} {v : V} {k : Key} (h : keyD d = some k) (i : Is K G d v) : v = kV k := by
  cases d with
  | int n => cases h; exact i
  | str x => cases h; exact i.1
  | _ => cases h
noncomputable def valD {κ : Type} [DecidableEq κ] : List κ → List D → κ → Option D
  | k :: ks, d :: ds, j => if k = j then some d else valD ks ds j
  | _, _, _ => none
theorem valV_zip {κ : Type} [DecidableEq κ] {K : PySem.W.Frag} {G : Hp} : ∀ {ks : List κ} {ds : List D} {xs : List V} {j : κ}, ks.length = xs.length → IsL K G ds xs →
    (valD ks ds j = none → valV (ks.zip xs) j = none) ∧ ∀ d, valD ks ds j = some d → ∃ v, valV (ks.zip xs) j = some v ∧ Is K G d v
  | [], ds, xs, j, h, i => by
    refine ⟨fun _ => rfl, fun d e => ?_⟩
    cases ds <;> cases e
  | k :: ks, ds, [], j, h, i => by simp at h
  | k :: ks, [], x :: xs, j, h, i => by
    have i : x :: xs = [] := i
    cases i
  | k :: ks, d :: ds, x :: xs, j, h, i => by
    obtain ⟨x', r, e, h1, h2⟩ := (show ∃ x' r, x :: xs = x' :: r ∧ Is K G d x' ∧ IsL K G ds r from i)
    cases e
    have ih := valV_zip (j := j) (by simpa using h) h2
    unfold valD
    by_cases e : k = j
    · rw [if_pos e]
      refine ⟨fun z => (by cases z), fun d' z => ?_⟩
      cases z
      exact ⟨x, by show valV ((k, x) :: ks.zip xs) j = _; exact valV_pos e, h1⟩
    · rw [if_neg e]
      have e2 : valV ((k :: ks).zip (x :: xs)) j = valV (ks.zip xs) j := by show valV ((k, x) :: ks.zip xs) j = _; exact valV_neg e
      rw [e2]; exact ih
noncomputable def inAR (a b : D) : Rs D := match b with
  | .dct ks ds => match keyD a with
    | some k => .ok (.bl (valD ks ds k).isSome)
    | none => .bad
  | _ => inR a b
theorem od_inA {X : Cx} (hu : X.A.units + 64 < cLine) : OpD X (compareOp .In) inAR := by
  intro pins s σ H G Q d1 d2 x y v u I gh rx ry i1 i2 hw
  unfold inAR at hw
  split at hw
  · rename_i ks ds
    split at hw
    · rename_i k hk
      cases is_key hk i1
      obtain ⟨a, xs, rfl, h1, h2, h3⟩ := i2
      cases (show u = .ref a from ry)
      refine d_in (by omega) I (DGet.k (gh _ _ h1)) rx fun s' I' => ⟨.bl _, H, I', rfl, ?_⟩
      have e : (valV (ks.zip xs) k).isSome = (valD ks ds k).isSome := by
        obtain ⟨z1, z2⟩ := valV_zip (j := k) h2 h3
        cases q : valD ks ds k with
        | none => rw [z1 q]; rfl
        | some d => obtain ⟨v, e, _⟩ := z2 d q; rw [e]; rfl
      rw [e]
      exact wOk hw gh rfl
    · exact hw.elim
  · exact od_in pins s σ H G Q d1 d2 x y v u I gh rx ry i1 i2 hw
@[simp] theorem s_inAs (y x : Str) : inAR (.str y) (.str x) = .ok (.bl (inSB y x)) := nodef rfl
@[simp] theorem s_inAd (x : Str) (ks : List Key) (ds : List D) : inAR (.str x) (.dct ks ds) = .ok (.bl (valD ks ds (.inr x)).isSome) := nodef rfl
@[simp] theorem s_inAi (x : Int) (ks : List Key) (ds : List D) : inAR (.int x) (.dct ks ds) = .ok (.bl (valD ks ds (.inl x)).isSome) := nodef rfl

section
variable {X : Cx} {B G₀ : Hp} {a b e : Expr} {es : List Expr} {fa fb fe : FE} {fr : FA} {pos pos' p p2 apos : Pos} {x : Str}
noncomputable def newDS (i : Nat) : FS := fun δ => .nx (δ.set i (some (.ow (.d []) [])))
noncomputable def getK (δ : DS) (i : Nat) : Rs (List Key × List D) := match δ[i]? with
  | some (some (.ow (.d ks) ds)) => .ok (ks, ds)
  | _ => .bad
noncomputable def setdM (z : List Key × List D) : List D → Rs (List Key × List D)
  | [k, v] => match keyD k with
    | some k => if z.1.length < 1000000 ∧ z.1.length = z.2.length then (match valD z.1 z.2 k with
      | some _ => .ok z
      | none => .ok (z.1 ++ [k], z.2 ++ [v])) else .bad
    | none => .bad
  | _ => .bad
noncomputable def setdS (i : Nat) (fr : FA) : FS := fun δ => (getK δ i >>= fun z => fr δ >>= fun es => setdM z es).out δ fun z => .nx (δ.set i (some (.ow (.d z.1) z.2)))
end
@[simp] theorem s_newDS (i : Nat) (δ : DS) : newDS i δ = .nx (δ.set i (some (.ow (.d []) []))) := nodef rfl
@[simp] theorem s_setdS (i : Nat) (fr : FA) (δ : DS) : setdS i fr δ = (getK δ i >>= fun z => fr δ >>= fun es => setdM z es).out δ fun z => .nx (δ.set i (some (.ow (.d z.1) z.2))) := nodef rfl
@[simp] theorem s_getK0 (ks : List Key) (ds : List D) (δ : DS) : getK (some (.ow (.d ks) ds) :: δ) 0 = .ok (ks, ds) := nodef rfl
@[simp] theorem s_getKs (x : Option Sl) (δ : DS) (j : Nat) : getK (x :: δ) (j + 1) = getK δ j := by unfold getK; rw [List.getElem?_cons_succ]
@[simp] theorem s_shareD (ks : List Key) (ds : List D) (δ : DS) : share (some (.ow (.d ks) ds) :: δ) = some (.v (.dct ks ds)) :: share δ := nodef rfl
@[simp] theorem s_shareSD (ks : List Key) (ds : List D) : shareS (some (.ow (.d ks) ds)) = some (.v (.dct ks ds)) := nodef rfl
@[simp] theorem s_shA0d (ks : List Key) (ds : List D) (δ : DS) : shareAt 0 (some (.ow (.d ks) ds) :: δ) = some (.v (.dct ks ds)) :: δ := nodef rfl
end M

set_option Elab.async false
set_option linter.all false
set_option maxRecDepth 100000
set_option maxHeartbeats 4000000
namespace M
open PySem PySem.Spec PyProof.Rows L2
set_option autoImplicit false

section
variable {Mo : Model} {A : Around} {E : Value → Shared → Prop} {s : Shared} {Bk : Heap} {env : Env} {outer l : List Env} {L e C : Addr}
theorem Fl.frames {h : Heap} (x : Fl Bk l e C h) : h.FunFrames Bk l ∧ Bk.StaysIn h ∧ Bk.get? e = none := by
  rcases x with ⟨t, fl, f1, f2, f3, _⟩ | ⟨h₁, vs, k1, k2, k3⟩
  · exact ⟨f3, f1, f2⟩
  · refine ⟨k2.of_keeps fun b o hb _ => ⟨o, k3.keeps b o hb, rfl⟩, fun b o hb => k3.keeps b o (k1 b o hb), ?_⟩
    cases q : Bk.get? e with
    | none => rfl
    | some o => have := k1 e o q; rw [k3.new] at this; cases this
theorem fl_note {Q : Unit → Shared → Prop} (hfr : A.frames = some (env :: outer)) (hf : env.frame = some L) (x : Fl Bk (env :: outer) e C s.heap)
    (hQ : ∀ h' t, Heap.HeldW Bk (env :: outer) e (.ref C) (.ref t) L h' → s.heap.UpToSlots h' → Q () { s with heap := h' }) : wpAny Mo A (noteFrame (.ref e) env) Q E s := by
  have fx := x.frames
  rcases x with ⟨t, fl, f1, f2, f3, f4⟩ | ⟨h₁, vs, k1, k2, k3⟩
  · by_cases hq : fl = rawInt L
    · subst hq
      exact wpAny_noteFrame_againW hf f4 (hQ s.heap t ⟨f1, f2, f3, f4⟩ (Heap.UpToSlots.refl _))
    · obtain ⟨oe, us, Tr, oTr, rs, x1, ⟨x2, x3⟩, x4, x5, x6, x7, x8, x9, x10⟩ := f4
      have oth : ∀ b, b ≠ Tr → (s.heap.update Tr (Obj.mapFields (·.setIfInBounds 3 Value.none))).get? b = s.heap.get? b := fun b z => Heap.get?_update_other _ _ (Ne.symm z)
      have nrc : ∀ b o, s.heap.get? b = some o → (∀ ws, o.data ≠ .fields ws) → b ≠ Tr := fun b o z nf q => by subst q; rw [x8] at z; cases z; exact nf rs x9
      unfold noteFrame; simp only [hf]
      refine wpAny_bind (wpAny_field x1 x4 x5 ?_); rw [if_pos (show (Value.ref Tr != Value.none) = true from by simp)]
      refine wpAny_bind (wpAny_field x8 x9 x10 ?_)
      rw [if_neg (fun z => hq (beq_iff_eq.mp z))]
      refine wpAny_bind (wpAny_setField x8 x9 (Array.getElem?_eq_some_iff.mp x10).1 ?_)
      refine wpAny_entryW hfr (f3.of_keeps fun b o z nf => ⟨o, (oth b (nrc b o z nf)).trans z, rfl⟩) hf ((oth e (Ne.symm x7)).trans x1) (fun b o z => (oth b fun q => by subst q; rw [x6] at z; cases z).trans (f1 b o z)) f2 x4
        (Array.getElem?_eq_some_iff.mp x5).1 x3 fun h' ⟨n1, n2, n3, n4⟩ => hQ h' t ⟨n1, f2, n2, by rw [← x2]; exact n3⟩ fun b o z nf => n4 b o ((oth b (nrc b o z nf)).trans z) nf
  · obtain ⟨t, he, htn, ht⟩ := k3.there
    unfold noteFrame
    simp only [hf]
    refine wpAny_bind (wpAny_field he rfl (x := .none) rfl ?_)
    rw [if_neg (by decide)]
    refine wpAny_entryW (a0 := .ref t) hfr fx.1 hf he fx.2.1 fx.2.2 rfl (by simp) rfl fun h' hN => ?_
    obtain ⟨n1, n2, n3, n4⟩ := hN
    exact hQ h' t ⟨n1, fx.2.2, n2, n3⟩ n4
theorem fl_leave {Q : Unit → Shared → Prop} (hfr : A.frames = some (env :: outer)) (hf : env.frame = some L) (x : Fl Bk (env :: outer) e C s.heap)
    (hQ : ∀ h' t, Heap.FlyingW Bk outer e (.ref C) (.ref t) h' → s.heap.UpToSlots h' → Q () { s with heap := h' }) : wpAny Mo A (leaving env (.ref e)) Q E s := by
  unfold leaving
  refine wpAny_bind (fl_note hfr hf x fun h1 t hh u1 => ?_)
  refine wpAny_landsW hh fun h' hfl u2 => ?_
  obtain ⟨k1, k2, ⟨_, _, k3⟩, k4⟩ := hfl
  exact hQ h' t ⟨k1, k2, k3, k4⟩ (u1.trans u2)
end

theorem UnB.un {P : Program} {w : World} {fs : List Addr} {H H' : Hp} {h Bk h' : Heap} (u : UnB fs H H' h Bk h') (st : Bk.StaysIn h') (hok : HOk P w H' Bk) (ht : ∀ a o, H a = some o → ∃ ob, h'.get? a = some ob) : Un fs [] H H' h h' where
  keep := fun b o q n hb _ => st b o (u.keep b o q n hb)
  slot := fun b o q n hb _ => u.slot b o q n hb
  free := fun b o q n _ => u.free b o q n
  there := fun b o q _ => by
    cases e : H b with
    | some z => exact ht b z e
    | none =>
      by_cases hb : b ∈ fs
      · obtain ⟨sl, z⟩ := u.slot b o q e hb; exact ⟨_, z⟩
      · exact ⟨o, st b o (u.keep b o q e hb)⟩
  tups := fun b xs q => u.same b _ q
  frzs := fun b o x q => u.same b _ q
  tbls := fun b ps q => ⟨#[], by rw [u.same b _ q]; simp⟩
theorem objOk_there {P : Program} {w : World} {H : Hp} {h : Heap} {a : Addr} {o : HO} (x : ObjOk P w H h a o) : ∃ ob, h.get? a = some ob := by
  induction o generalizing a with
  | lst xs => obtain ⟨_, its, n, _, e⟩ := x; exact ⟨_, e⟩
  | tup xs => obtain ⟨_, its, _, o, e, _⟩ := x; exact ⟨_, e⟩
  | dK kvs => obtain ⟨_, _, vs, _, o, es, ep, e, _⟩ := x; exact ⟨_, e⟩
  | dT kvs => obtain ⟨_, _, xs, _, o, es, ep, e, _⟩ := x; exact ⟨_, e⟩
  | set S n =>
    have x : h.SetOf (intKind P w) a S n := x
    obtain ⟨o, es, ep, t, e, _⟩ := x
    exact ⟨o, e⟩
  | ins C dx fs => obtain ⟨_, _, _, e, _⟩ := x; exact ⟨_, e⟩
  | own x' => exact x
  | xd fs => obtain ⟨mA, ⟨o, es, ep, e, _⟩, _⟩ := x; exact ⟨o, e⟩
  | met f x' => exact ⟨_, x⟩
  | rng lo hi => obtain ⟨t, u, v, e⟩ := x; exact ⟨_, e⟩
  | frz ob u ih => exact ⟨_, x.1⟩
  | tbl ps => exact ⟨_, x⟩
  | ext φ => exact x.2.1
theorem HOk.there' {P : Program} {w : World} {H : Hp} {h : Heap} {a : Addr} {o : HO} (x : HOk P w H h) (e : H a = some o) : ∃ ob, h.get? a = some ob := objOk_there (x a o e)
theorem UnB.slots {fs : List Addr} {l : List Env} {H H' : Hp} {h Bk h1 h2 : Heap} (u : UnB fs H H' h Bk h1) (hl : h1.FunFrames Bk l) (hs : ∀ b ∈ fs, b ∈ frs l) (up : h1.UpToSlots h2) : UnB fs H H' h Bk h2 :=
  ⟨u.keep, fun b o q n hb => by
    obtain ⟨sl, e⟩ := u.slot b o q n hb
    obtain ⟨_, ob, e2, nf⟩ := hl.mem (hs b hb)
    rw [e] at e2; cases e2
    obtain ⟨sl2, e3⟩ := up b _ e nf
    exact ⟨sl2, e3⟩, u.free, u.same⟩
noncomputable def CX1 (P : Program) (w : World) : CXT := fun outer H s E ev s' => ∃ (e C : Addr) (Bk : Heap) (H' : Hp), ev = .ref e ∧ E (.ref C) none H' ∧ (∃ t, Heap.FlyingW Bk outer e (.ref C) (.ref t) s'.heap) ∧ s'.os = s.os ∧ AllBare s'.gens ∧ HOk P w H' Bk ∧
  (∀ b o, H' b = some o → b ∉ frs outer) ∧ UnB (frs outer) H H' s.heap Bk s'.heap
noncomputable def XE1 (X : Cx) (E₀ : XK) (ev : Value) (s' : Shared) : Prop := ∃ (e C : Addr) (Bk : Heap) (H' : Hp), ev = .ref e ∧ E₀ (.ref C) none H' ∧ Fl Bk X.stack e C s'.heap ∧ s'.os = X.s₀.os ∧ AllBare s'.gens ∧ HOk X.prog X.w H' Bk ∧
  (∀ b o, H' b = some o → b ∉ frs X.stack) ∧ UnB X.fs X.H₀ H' X.s₀.heap Bk s'.heap
theorem fs_sub {X : Cx} (hst : X.stack = X.env :: X.outer) : ∀ b ∈ X.fs, b ∈ frs X.stack := fun b hb => by
  rw [hst]
  obtain ⟨env, he, hf⟩ := List.mem_filterMap.mp hb
  exact List.mem_filterMap.mpr ⟨env, List.mem_cons_of_mem _ he, hf⟩
theorem leaves1 {P : Program} {w : World} {K : PySem.W.Frag} {mg : Str → Option Value} {base : Heap} {N : List Str} {qual : Str} {scope : Scope} {f : Addr} {cd : Value} {A : Around} {outer : List Env} {s : Shared} {H : Hp} {E : XK} {ev : Value} {s' : Shared}
    (hfr : (A.deeper (envOfC qual scope s.heap.objs.size f cd)).frames = some (envOfC qual scope s.heap.objs.size f cd :: outer)) (x : XE1 (cxOf (CX1 P w) P w K mg base N qual scope f cd A outer s H E) E ev s') : (cxOf (CX1 P w) P w K mg base N qual scope f cd A outer s H E).xe ev s' := by
  obtain ⟨e, C, Bk, H', rfl, h1, h2, h3, h4, h5, h6, h7⟩ := x
  have h2' : Fl Bk (envOfC qual scope s.heap.objs.size f cd :: outer) e C s'.heap := h2
  have hF := h2'.frames.1
  show wpAny (model P w) (A.deeper (envOfC qual scope s.heap.objs.size f cd)) (leaving (envOfC qual scope s.heap.objs.size f cd) (.ref e)) _ _ s'
  refine fl_leave (L := s.heap.objs.size) hfr rfl h2' fun h' t hfl up => ?_
  have hs : ∀ b ∈ frs outer, b ∈ frs (envOfC qual scope s.heap.objs.size f cd :: outer) := fun b hb => by
    obtain ⟨env, he, hf⟩ := List.mem_filterMap.mp hb
    exact List.mem_filterMap.mpr ⟨env, List.mem_cons_of_mem _ he, hf⟩
  exact ⟨e, C, Bk, H', rfl, h1, ⟨t, hfl⟩, h3, h4, h5, fun b o q hb => h6 b o q (hs b hb), h7.slots hF hs up⟩
theorem isX_XE1 {X : Cx} {E₀ : XK} {c : Str} {pins : List (Addr × Obj)} {σ : St} {G₀ H G : Hp} {δ : DS} {s : Shared} {ev : Value} {s' : Shared} (hst : X.stack = X.env :: X.outer) (hex : X.ex = []) (I : Inv X pins σ H s) (R : Rel X X.H₀ G₀ σ H G δ)
    (hE : ∀ C H' G', X.mg c = some (.ref C) → Ext X.H₀ G₀ H' G' → E₀ (.ref C) none H') (x : IsX X c H G s ev s') : XE1 X E₀ ev s' := by
  obtain ⟨e, C, Bk, H', G', rfl, h1, h2, h3, h4, h5, h6, h7, h8⟩ := x
  have hno : ∀ b, b ∉ X.ex := fun b z => by rw [hex] at z; cases z
  refine ⟨e, C, Bk, H', rfl, hE C H' G' h1 (R.ext.trans h2), h3, h4.trans I.os, h5, h6, h7, fun b o q n hb => ?_, fun b o q n hb => ?_, fun b o q n => ?_, R.ext.hh.trans h8.same⟩
  · refine h8.keep b o (I.base.keep b o q n hb (hno b)) (I.base.free b o q n (hno b)) fun hm => ?_
    rw [hst] at hm
    obtain ⟨env, he, hf⟩ := List.mem_filterMap.mp hm
    rcases List.mem_cons.mp he with rfl | he
    · rcases I.ok.stk with z | ⟨_, z⟩
      · rw [hst] at z
        have := congrArg List.length z
        simp at this
      · rw [z] at hf; cases hf
        exact absurd (Heap.lt_size q) (Nat.not_lt.mpr I.ok.above)
    · exact hb (List.mem_filterMap.mpr ⟨env, he, hf⟩)
  · obtain ⟨sl, e1⟩ := I.base.slot b o q n hb (hno b)
    obtain ⟨sl2, e2⟩ := h8.slot b _ e1 (I.base.free b o q n (hno b)) (fs_sub hst b hb)
    exact ⟨sl2, e2⟩
  · obtain ⟨o', e1⟩ := I.base.there b o q (hno b)
    exact h8.free b o' e1 (I.base.free b o q n (hno b))
theorem cx1_isX {X : Cx} {c : Str} {pins : List (Addr × Obj)} {σ : St} {H G : Hp} {s : Shared} {ev : Value} {s' : Shared} {E : XK} (I : Inv X pins σ H s) (hE : ∀ C H', E (.ref C) none H' → ∃ G', X.mg c = some (.ref C) ∧ Ext H G H' G') (x : CX1 X.prog X.w X.stack H s E ev s') : IsX X c H G s ev s' := by
  obtain ⟨e, C, Bk, H', rfl, h1, ⟨t, h2⟩, h3, h4, h5, h6, h7⟩ := x
  obtain ⟨G', m, ex⟩ := hE C H' h1
  exact ⟨e, C, Bk, H', G', rfl, m, ex, .inl ⟨t, _, h2.1, h2.2.1, h2.2.2.1, h2.2.2.2.at⟩, h3, h4, h5, h6, h7⟩
end M

set_option Elab.async false
set_option linter.all false
set_option maxRecDepth 100000
set_option maxHeartbeats 4000000
namespace M
open PySem PySem.Spec PyProof.Rows L2
set_option autoImplicit false

noncomputable def finX : Out → Rs D
  | .nx _ => .ok .non
  | .rt d => .ok d
  | .exc c _ => .exc c
  | _ => .bad
noncomputable def fnX (n m : Nat) (F : DS → Out) (ds : List D) : Rs D := if ds.length = n then finX (F (ds.map vsl ++ List.replicate m none)) else .bad
noncomputable def spX (K : PySem.W.Frag) (mg : Str → Option Value) (g : List D → Rs D) (n : Nat) : Sp := fun vs H Q E => ∃ G ds, Same G H ∧ IsL K G ds vs ∧ ds.length = n ∧
  (g ds).wp (fun c => ∀ C H' G', mg c = some (.ref C) → Ext H G H' G' → E (.ref C) none H') fun d => ∀ v H' G', Ext H G H' G' → Is K G' d v → Q v H'
structure FnX (P : Program) (w : World) (K : PySem.W.Frag) (mg : Str → Option Value) (base : Heap) (x : Str) (k n : Nat) (g : List D → Rs D) : Prop where
  ex : ∃ (f : Addr) (fd : FuncData) (ps : List Str), FnOk P w K mg base (CX1 P w) k f fd ps (spX K mg g n) ∧ Binds K fd ps [] ∧ mg x = some (.ref f) ∧ PySem.W.keepIn K (.ref f) = true
  len : ∀ ds, ds.length ≠ n → g ds = .bad
section
variable {P : Program} {w : World} {K : PySem.W.Frag} {mg : Str → Option Value} {base : Heap}
theorem fnX_len (n m : Nat) (F : DS → Out) : ∀ ds : List D, ds.length ≠ n → fnX n m F ds = .bad := fun ds h => by unfold fnX; rw [if_neg h]
theorem pss_wish1 {X : Cx} {E : Value → Shared → Prop} {st : List Stmt} {t : TS} (h : PSs (X.wish E) st t) (hE : X.Ok → ∀ ev s', E ev s' → X.xe ev s') : PSs X st t := fun pins s σ H D I hw =>
  wpAny_mono (h pins s σ H D (I.wish _) hw) (fun _ _ q => q.unwish) fun ev s' z => hE I.ok ev s' z
noncomputable abbrev cxX (P : Program) (w : World) (K : PySem.W.Frag) (mg : Str → Option Value) (base : Heap) (N : List Str) (qual : Str) (sc : Scope) (f : Addr) (cdv : Value) (A : Around) (outer : List Env) (s : Shared) (H : Hp) (E : XK) : Cx :=
  (cxOf (CX1 P w) P w K mg base N qual sc f cdv A outer s H E).wish (XE1 (cxOf (CX1 P w) P w K mg base N qual sc f cdv A outer s H E) E)
theorem def_okX {x qual : Str} {st : Stmt} {f : Addr} {fd : FuncData} {N ps : List Str} {k m : Nat} {Fb : DS → Out} (F : Fun K x qual st f fd) (S : FnScope N ps (defScope st)) (hm : N.length - ps.length = m)
    (hb : ∀ (kV doc pm : Value) (an : Option Addr) (cdv ct : Value) (us : List Value), us.length = ps.length → bindArgs (PySem.W.fnOf x qual (defArgs st) (defBody st) (defScope st) .none kV doc pm an cdv ct) ⟨us, []⟩ = pure (ps.zip us))
    (hx : mg x = some (.ref f))
    (hbody : ∀ (cdv : Value) (A : Around) (outer : List Env) (s : Shared) (H : Hp) (E : XK) (G₀ : Hp), Room k (A.deeper (envOfC qual (defScope st) s.heap.objs.size f cdv)) →
      PSs (cxX P w K mg base N qual (defScope st) f cdv A outer s H E) (defBody st) (tS (cxX P w K mg base N qual (defScope st) f cdv A outer s H E) H G₀ Fb)) :
    FnX P w K mg base x (k + 1) ps.length (fnX ps.length m Fb) := by
  refine ⟨⟨f, fd, ps, ?_, F.binds hb, hx, F.kp⟩, fnX_len _ _ _⟩
  obtain ⟨oc, od, kV, doc, pm, an, cdv, ct, osl, rfl, lk, hcd⟩ := F.ex
  refine fn_of lk hcd S (fun vs H Q E ⟨G, ds, gh, i, hl, _⟩ => by rw [i.length, hl]) fun A outer s H vs Q E hr ⟨G, ds, gh, i, hl, hw⟩ => ?_
  refine ⟨_, pss_wish1 (hbody cdv A outer s H E G hr) (fun ok ev s' z => leaves1 ok.frames z), G, ds.map vsl ++ List.replicate m none, ?_, ?_⟩
  · have := rel_start (X := cxX P w K mg base N qual (defScope st) f cdv A outer s H E) gh i m
    unfold L2.start
    rw [i.length, hl, hm]
    exact this
  · unfold fnX at hw
    rw [if_pos hl] at hw
    cases q : Fb (ds.map vsl ++ List.replicate m none) with
    | nx δ => rw [q] at hw; exact fun σ H' G' R => hw .non H' G' R.ext rfl
    | rt d => rw [q] at hw; exact fun v H' G' e i => hw v H' G' e i
    | bk δ => rw [q] at hw; exact hw.elim
    | ct δ => rw [q] at hw; exact hw.elim
    | exc c δ =>
      rw [q] at hw
      exact fun pins σ s1 H1 G1 ev R I s'' x => isX_XE1 (X := cxX P w K mg base N qual (defScope st) f cdv A outer s H E) rfl rfl I R (fun C H' G' hm ex => hw C H' G' hm ex) x
    | bad => rw [q] at hw; exact hw.elim
end
section
variable {X : Cx} {B G₀ : Hp} {x : Str} {k n : Nat} {g : List D → Rs D} {e : Expr} {es : List Expr} {fr : DS → Rs (List D)} {p pos : Pos}
theorem run_fnX {pins : List (Addr × Obj)} {σ : St} {H : Hp} {s : Shared} {Q : VK} {us : List Value} {vs : List V} {f : Addr} {fd : FuncData} {ps : List Str} {sp : Sp} {E : XK} (F : FnOk X.prog X.w X.K X.mg X.base (CX1 X.prog X.w) k f fd ps sp) (hr : Room k X.A) (hb : Binds X.K fd ps [])
    (hx : ∀ ev s', CX1 X.prog X.w X.stack H s E ev s' → X.xe ev s') (I : Inv X pins σ H s) (r : Vals vs us) (h : sp vs H Q E) : wpAny (model X.prog X.w) X.A (call (.ref f) us) (EP X pins σ Q) X.xe s := by
  have hl : us.length = ps.length := by rw [← r.length]; exact F.len _ _ _ _ h
  have hb' : BindsTo s fd ⟨us, []⟩ (ps.zip us) := by
    have := hb s us I.kIn (by rw [List.append_nil]; exact hl)
    rw [List.append_nil] at this
    exact this
  refine wpAny_call (codeAny_mono (F.run X.A X.stack s H ⟨us, []⟩ us vs Q E hr I.env0 hb' r h) fun r s' hq => ?_)
  cases r with
  | error e => exact hx e s' hq
  | ok fl =>
    cases fl with
    | ret u => exact I.after hq
    | next => exact False.elim hq
    | brk => exact False.elim hq
    | cont => exact False.elim hq
theorem q_callX (F : FnX X.prog X.w X.K X.mg X.base x k n g) (hr : Room k X.A) (ha : PA X (e :: es) (tAs X B G₀ fr)) (hg : Gl X x := by rfl) (hdb : (x == ("__debug__" : Str)) = false := by decide)
    (he : starEach (e :: es) X.env = (false, eval e X.env) :: starEach es X.env := by rfl) (hpl : (backTo pos (starEach es X.env)).any (·.1) = false := by rfl) :
    PE X (.Call (.Name x p) (e :: es) [] pos) (tE X B G₀ (appF g fr)) := by
  obtain ⟨⟨f, fd, ps, hF, hb, hm, hk⟩, hlen⟩ := F
  intro pins s σ H Q I ⟨G, δ, R, hw⟩
  refine wpAny_Call_Name_kw (ld_glob I hg hm ?_ hdb)
  have hw : (fr δ >>= g).wp (fun c => Xo X c σ H G) fun d => ∀ v H' G', Ext H G H' G' → Is X.K G' d v → Q v H' := hw
  refine PySem.W.callWith_K (h₀ := X.base) I.ok.mod.kin hk (bindA ha I R hw fun ds us vs s1 H1 G1 I1 R1 r1 e1 i1 hw1 => ⟨I1.kIn, ?_⟩) he hpl
  by_cases hl : ds.length = n
  · refine run_fnX (E := fun cls _ H' => ∃ c C G', g ds = .exc c ∧ cls = .ref C ∧ X.mg c = some (.ref C) ∧ Ext H1 G1 H' G') hF hr hb (fun ev s' cx => ?_) I1 r1 ⟨G1, ds, e1.gh, i1, hl, ?_⟩
    · cases hgd : g ds with
      | exc c =>
        rw [hgd] at hw1
        refine hw1 pins s1 H1 G1 ev (Ext.refl e1.gh) I1 s' (cx1_isX I1 (fun C H' hE => ?_) cx)
        obtain ⟨c', C', G', h1, h2, h3, h4⟩ := hE
        rw [hgd] at h1; cases h1; cases h2
        exact ⟨G', h3, h4⟩
      | ok d => obtain ⟨e, C, Bk, H', rfl, ⟨c', C', G', h1, _⟩, _⟩ := cx; rw [hgd] at h1; cases h1
      | bad => rw [hgd] at hw1; exact hw1.elim
    · cases hgd : g ds with
      | exc c => exact fun C H' G' hm' ex => ⟨c, C, G', rfl, rfl, hm', ex⟩
      | ok d => rw [hgd] at hw1; exact fun v H' G' e' i' => hw1 v H' G' (e1.trans e') i'
      | bad => rw [hgd] at hw1; exact hw1.elim
  · rw [hlen ds hl] at hw1; exact hw1.elim
end
@[simp] theorem s_finXrt (d : D) : finX (.rt d) = .ok d := nodef rfl
@[simp] theorem s_finXnx (δ : DS) : finX (.nx δ) = .ok .non := nodef rfl
@[simp] theorem s_finXexc (c : Str) (δ : DS) : finX (.exc c δ) = .exc c := nodef rfl
@[simp] theorem s_finXbad : finX .bad = .bad := nodef rfl
@[simp] theorem s_fnX1 (m : Nat) (F : DS → Out) (a : D) : fnX 1 m F [a] = finX (F (some (.v a) :: List.replicate m none)) := nodef rfl
@[simp] theorem s_fnX2 (m : Nat) (F : DS → Out) (a b : D) : fnX 2 m F [a, b] = finX (F (some (.v a) :: some (.v b) :: List.replicate m none)) := nodef rfl
@[simp] theorem s_fnX3 (m : Nat) (F : DS → Out) (a b c : D) : fnX 3 m F [a, b, c] = finX (F (some (.v a) :: some (.v b) :: some (.v c) :: List.replicate m none)) := nodef rfl
@[simp] theorem s_fnX4 (m : Nat) (F : DS → Out) (a b c d : D) : fnX 4 m F [a, b, c, d] = finX (F (some (.v a) :: some (.v b) :: some (.v c) :: some (.v d) :: List.replicate m none)) := nodef rfl
@[simp] theorem s_fnX5 (m : Nat) (F : DS → Out) (a b c d e : D) : fnX 5 m F [a, b, c, d, e] = finX (F (some (.v a) :: some (.v b) :: some (.v c) :: some (.v d) :: some (.v e) :: List.replicate m none)) := nodef rfl
@[simp] theorem exc_out {α : Type} (c : Str) (δ : DS) (k : α → Out) : (Rs.exc c : Rs α).out δ k = .exc c δ := nodef rfl
end M

set_option Elab.async false
set_option linter.all false
set_option maxRecDepth 100000
set_option maxHeartbeats 4000000
namespace M
open PySem PySem.Spec PyProof.Rows L2
set_option autoImplicit false

noncomputable abbrev VE : List Value := [.type "ValueError", .type "Exception", .type "BaseException", .type "object"]
noncomputable def ExcC (K : PySem.W.Frag) (mg : Str → Option Value) (x : Str) : Prop := ∃ C, mg x = some (.ref C) ∧ PySem.W.excIn K C VE "ValueError.__new__" = true
theorem excC_obj {K : PySem.W.Frag} {h : Heap} {C : Addr} (X : K.In h) (q : PySem.W.excIn K C VE "ValueError.__new__" = true) :
    ∃ (bm : List Value) (N : Addr) (nm qn : Str) (bs : List Value) (hd : Bool) (sn : List Str) (sub : List Value) (ab : Bool) (col : Option Bool) (dd : Option Addr) (k0 k1 k2 k3 k5 : Option Value) (mN : Str → Option Value),
      h.get? C = some (excClassObj nm qn C N bs bm hd sn sub ab col dd k0 k1 k2 k3 k5 "ValueError.__new__") ∧ h.Ns N mN ∧ mN "__init__" = none ∧ OwnTail h VE bm := by
  unfold PySem.W.excIn at q
  split at q
  · rename_i dd0 cd0 sl0 hlook
    split at q
    · rename_i C2 tl j0 j1 j2 j3 nid j5 hmro hsl
      have q0 := q
      simp only [Bool.and_eq_true, beq_iff_eq, Bool.not_eq_true'] at q0
      obtain ⟨⟨⟨⟨⟨z1, z2⟩, z3⟩, z4⟩, z5⟩, z6⟩ := q0
      cases z1; cases z2
      have hslots : sl0 = #[j0, j1, j2, j3, some (.builtin "ValueError.__new__"), j5] := by
        cases sl0 with
        | mk ll => exact congrArg Array.mk hsl
      cases cd0 with
      | mk a1 a2 a3 a4 a5 a6 a7 a8 a9 a10 a11 =>
        have e3 : a3 = _ := hmro
        have e11 : a11 = false := z3
        cases e3; cases e11; cases hslots
        exact ⟨tl, a4, a1, a5, a2, a6, a7, a8, a9, a10, dd0, j0, j1, j2, j3, j5, _, X _ _ hlook, Heap.Ns.of_isNs (PySem.W.isNs_of_in X z5), PySem.W.nsMap_none_of_in X z5 z6, PySem.W.tail_of_in X z4⟩
    · cases q
  · cases q
noncomputable def raiseS (c : Str) (fr : FA) : FS := fun δ => (fr δ).out δ fun ds => if ds.length ≤ 1000 then .exc c δ else .bad
section
variable {X : Cx} {B G₀ : Hp} {e : Expr} {es : List Expr} {fr : FA} {x : Str} {np cpos pos : Pos}
theorem made_isX {pins : List (Addr × Obj)} {σ : St} {H G : Hp} {s : Shared} {h' : Heap} {ea C : Addr} {vs : List Value} (I : Inv X pins σ H s) (gh : Same G H) (hm : X.mg x = some (.ref C)) (mx : Heap.MadeExcOf s.heap h' ea (.ref C) vs) : IsX X x H G s (.ref ea) { s with heap := h' } := by
  have hin : ∀ env ∈ X.stack, ∀ b, env.frame = some b → b ∈ frs X.stack := fun env he b hb => List.mem_filterMap.mpr ⟨env, he, hb⟩
  refine ⟨ea, C, PySem.W.hideAll s.heap (frs X.stack), H, G, rfl, hm, Ext.refl gh, .inr ⟨s.heap, vs, fun b o q => PySem.W.of_hideAll _ q, PySem.W.funFrames_hide I.stack hin, mx⟩, rfl, I.bare, fun b ob q => ?_, fun b o q hb => ?_, fun b o q n hb => PySem.W.hideAll_get _ q hb, fun b o q n hb => ⟨o.slots, mx.keeps b o q⟩, fun _ _ _ n => n, Same.refl _⟩
  · refine (I.hok b ob q).stay (fun d o hd z => PySem.W.hideAll_get _ z fun hmem => ?_) (fun _ z => z) fun _ _ z => z
    have hn := I.stkFree d hmem
    rcases hd with rfl | hd
    · rw [q] at hn; cases hn
    · rw [hd] at hn; cases hn
  · have := I.stkFree b hb
    rw [q] at this; cases this
theorem q_raise (hc : X.calm = true) (hC : ExcC X.K X.mg x) (ha : PA X (e :: es) (tAs X B G₀ fr)) (hg : Gl X x := by rfl) (hdb : (x == ("__debug__" : Str)) = false := by decide)
    (he : starEach (e :: es) X.env = (false, eval e X.env) :: starEach es X.env := by rfl) (hpl : (backTo cpos (starEach es X.env)).any (·.1) = false := by rfl) :
    PS X (.Raise (some (.Call (.Name x np) (e :: es) [] cpos)) none pos) (tS X B G₀ (raiseS x fr)) := by
  intro pins s σ H D' I ⟨G, δ, R, hw⟩
  obtain ⟨C, hm, hex⟩ := hC
  obtain ⟨bm, N, nm, qn, bs, hd, sn, sub, ab, col, dd, k0, k1, k2, k3, k5, mN, o1, o2, o3, o4⟩ := excC_obj I.ok.mod.kin hex
  refine wpAny_Raise_call_subT PySem.F.excBase_ValueError (C := C) (N := N) (mN := mN) (bm := bm) (nm := nm) (q := qn) (bs := bs) (hdct := hd) (sn := sn) (sub := sub) (ab := ab) (col := col) (dd := dd) (k0 := k0) (k1 := k1) (k2 := k2) (k3 := k3) (k5 := k5) (OwnTail.hasType o4 (by decide)) (I.ok.hd hc) (by rw [he]; show (false || (backTo cpos (starEach es X.env)).any (·.1)) = false; rw [hpl]; rfl) o3 (ld_glob I hg hm ⟨rfl, ?_⟩ hdb)
  have hw : WS X B G₀ D' ((fr δ).out δ fun ds => if ds.length ≤ 1000 then .exc x δ else .bad) := hw
  have hrun := ha cpos pins s σ H (fun vs H' => vs.length ≤ sizeLine ∧ ∃ G', Ext H G H' G' ∧ XS X B G₀ x δ) I ⟨G, δ, R, ?_⟩
  · rw [he] at hrun ⊢
    refine Calls.evalArgs_plain (thn hrun fun us s2 ⟨vs, H2, I2, r2, hl, G2, e2, hx⟩ => ?_)
    have kp : ∀ b o, X.base.get? b = some o → s2.heap.get? b = some o := I2.bk
    refine ⟨rfl, by rw [← r2.length]; exact hl, kp _ _ o1, o2.keeps kp, o4.keeps kp, fun h' ea mx => ?_⟩
    exact hx pins σ s2 H2 G2 (.ref ea) (R.mono e2) I2 _ (made_isX I2 e2.gh hm mx)
  · cases q : fr δ with
    | ok ds =>
      rw [q] at hw
      intro vs H' G' e' i'
      have hw : WS X B G₀ D' (if ds.length ≤ 1000 then .exc x δ else .bad) := hw
      split at hw
      · rename_i hl
        exact ⟨Nat.le_trans (by rw [i'.length]; exact hl) thousand, G', e', hw⟩
      · exact hw.elim
    | exc c => rw [q] at hw; exact fun pins s' H' G' ev e I x => hw pins σ s' H' G' ev (R.mono e) I x
    | bad => rw [q] at hw; exact hw.elim
end
@[simp] theorem s_raiseS (c : Str) (fr : FA) (δ : DS) : raiseS c fr δ = (fr δ).out δ fun ds => if ds.length ≤ 1000 then .exc c δ else .bad := nodef rfl
end M

set_option Elab.async false
set_option linter.all false
set_option maxRecDepth 100000
set_option maxHeartbeats 4000000
namespace M
open PySem PySem.Spec PyProof.Rows L2
set_option autoImplicit false

noncomputable abbrev _root_.L2.Cx.tr (X : Cx) (pn : List (Addr × Obj)) (E : Value → Shared → Prop) : Cx := { X with pn := pn, xe := E }
noncomputable abbrev _root_.L2.Cx.mrk (X : Cx) (e : Addr) : Cx := { X with A := X.A.mark (some (.ref e)), calm := false, xe := fun _ _ => False }
section
variable {X : Cx} {B G₀ : Hp} {pins : List (Addr × Obj)} {σ : St} {H G : Hp} {s : Shared} {δ : DS}
theorem _root_.L2.Cx.Ok.tr (ok : X.Ok) (pn : List (Addr × Obj)) (E : Value → Shared → Prop) : (X.tr pn E).Ok :=
  ⟨ok.mod, ok.kind, ok.glob, ok.blt, ok.above, ok.inj, ok.has, ok.cab, ok.hd, ok.frames, ok.stk, ok.exf, ok.bs, ok.bsz, ok.noex, ok.exfs, ok.funs, ok.frf⟩
theorem _root_.L2.Cx.Ok.mrk (ok : X.Ok) (e : Addr) : (X.mrk e).Ok :=
  ⟨ok.mod, ok.kind, ok.glob, ok.blt, ok.above, ok.inj, ok.has, ok.cab, fun h => (by cases h), ok.frames, ok.stk, ok.exf, ok.bs, ok.bsz, ok.noex, ok.exfs, ok.funs, ok.frf⟩
theorem _root_.L2.Inv.tr (I : Inv X pins σ H s) (E : Value → Shared → Prop) : Inv (X.tr (X.pn ++ pins) E) [] σ H s :=
  ⟨I.ok.tr _ E, I.os, I.bare, I.base, I.loc, I.cell, I.free, I.freeC, fun p hp => I.pin p (by simpa using hp), I.hok, I.len⟩
theorem _root_.L2.Inv.untr {E : Value → Shared → Prop} {pins' : List (Addr × Obj)} (ok : X.Ok) (I : Inv (X.tr (X.pn ++ pins) E) pins' σ H s) : Inv X pins σ H s :=
  ⟨ok, I.os, I.bare, I.base, I.loc, I.cell, I.free, I.freeC, fun p hp => I.pin p (List.mem_append_left _ hp), I.hok, I.len⟩
theorem _root_.L2.Inv.mrk (I : Inv X pins σ H s) (e : Addr) : Inv (X.mrk e) pins σ H s := ⟨I.ok.mrk e, I.os, I.bare, I.base, I.loc, I.cell, I.free, I.freeC, I.pin, I.hok, I.len⟩
theorem _root_.L2.SP.untr {E : Value → Shared → Prop} {pins' : List (Addr × Obj)} {D : Ends} {f : Flow} {s' : Shared} (ok : X.Ok) (h : SP (X.tr (X.pn ++ pins) E) pins' D f s') : SP X pins D f s' := by
  cases f with
  | next => obtain ⟨σ', H', I, q⟩ := h; exact ⟨σ', H', I.untr ok, q⟩
  | brk => obtain ⟨σ', H', I, q⟩ := h; exact ⟨σ', H', I.untr ok, q⟩
  | cont => obtain ⟨σ', H', I, q⟩ := h; exact ⟨σ', H', I.untr ok, q⟩
  | ret u => obtain ⟨v, σ', H', I, r, q⟩ := h; exact ⟨v, σ', H', I.untr ok, r, q⟩
theorem Rel.cx {Y : Cx} (R : Rel X B G₀ σ H G δ) (h : X.K = Y.K := by rfl) : Rel Y B G₀ σ H G δ :=
  ⟨R.ext, R.len, fun i d q => by rw [← h]; exact R.val i d q, fun i k ds q => by rw [← h]; exact R.own i ds q, R.apart⟩
noncomputable def exnP (e C : Addr) : Heap → Prop := fun h => ∃ o, h.get? e = some o ∧ o.cls = .ref C
theorem caught {e C t : Addr} {Bk : Heap} {H' : Hp} {h : Heap} {g : Array GenState} {d : Drawn} {tk : Nat} (I : Inv X pins σ H s) (fl : Heap.FlyingW Bk X.stack e (.ref C) (.ref t) h) (hb : AllBare g) (hok : HOk X.prog X.w H' Bk)
    (u : UnB (frs X.stack) H H' s.heap Bk h) : H' e = none ∧ Inv X pins σ (upd H' e (.ext (exnP e C))) ⟨h, g, d, tk, s.os⟩ := by
  have hne : H' e = none := by
    cases q : H' e with
    | none => rfl
    | some o =>
      obtain ⟨ob, z⟩ := HOk.there' hok q
      rw [fl.2.1] at z; cases z
  obtain ⟨oe, vs, he, hcl, hd, _⟩ := fl.first
  have hold : ∀ b o, s.heap.get? b = some o → H b = none → b ≠ e := fun b o q n z => by
    subst z
    by_cases hm : b ∈ frs X.stack
    · obtain ⟨_, ob, ho, nf⟩ := fl.2.2.1.mem hm
      rw [he] at ho; cases ho
      exact nf vs hd
    · have := u.keep b o q n hm
      rw [fl.2.1] at this; cases this
  have hok2 : HOk X.prog X.w H' h := hok.kept fl.1
  have un := u.un fl.1 hok fun a o q => HOk.there' hok2 (u.same a o q)
  have up : ∀ {b : Addr} {o : HO}, H' b = some o → upd H' e (.ext (exnP e C)) b = some o := fun {b o} q => by rw [upd_ne (ne_of_none q hne)]; exact q
  have un2 : Un (frs X.stack) [] H (upd H' e (.ext (exnP e C))) s.heap h :=
    ⟨un.keep, un.slot, fun b o q n hx => by rw [upd_ne (hold b o q n)]; exact un.free b o q n hx, un.there, fun b xs q => up (un.tups b xs q), fun b o x q => up (un.frzs b o x q),
      fun b ps q => let ⟨more, z⟩ := un.tbls b ps q; ⟨more, up z⟩⟩
  have hok3 : HOk X.prog X.w (upd H' e (.ext (exnP e C))) h := fun a o q => by
    by_cases ha : a = e
    · subst ha
      rw [upd_same] at q; cases q
      exact ⟨⟨oe, he, hcl⟩, ⟨oe, he⟩, fun h1 h2 ⟨o, z1, z2⟩ k => ⟨o, k o z1, z2⟩⟩
    · rw [upd_ne ha] at q
      exact (hok2 a o q).stay (fun _ _ _ z => z) (fun b z => up z) fun b xs z => up z
  exact ⟨hne, I.call' (s' := ⟨h, g, d, tk, s.os⟩) rfl un2 hok3 hb fun b hb => by cases hb⟩
theorem gone {e : Addr} {h' : Heap} {m' : Str → Option Value} {tk : Nat} (ok : X.Ok) (I : Inv (X.mrk e) pins σ H s) (hn : h'.Ns X.env.locals m') (hs : Heap.SameBut X.env.locals s.heap h') : Inv X pins (List.replicate X.N.length none) H { s with heap := h', toks := tk } := by
  have bne : ∀ b o, X.s₀.heap.get? b = some o → b ≠ X.env.locals := fun b o e => Nat.ne_of_lt (Nat.lt_of_lt_of_le (Heap.lt_size e) ok.above)
  refine ⟨ok, I.os, I.bare, ⟨fun b o e n hb hx => (hs.2 b (bne b o e)).trans (I.base.keep b o e n hb hx), fun b o e n hb hx => ?_, I.base.free, fun b o e hx => ?_, I.base.tups, I.base.frzs, I.base.tbls⟩,
    ⟨_, hn, fun i x v _ z => ?_⟩, fun x c q => ?_, I.free, I.freeC, fun p hp => ?_, fun b ob q => ?_, by simp⟩
  · obtain ⟨sl, z⟩ := I.base.slot b o e n hb hx
    exact ⟨sl, (hs.2 b (bne b o e)).trans z⟩
  · obtain ⟨o', z⟩ := I.base.there b o e hx
    exact ⟨o', (hs.2 b (bne b o e)).trans z⟩
  · rw [List.getElem?_replicate] at z
    split at z <;> cases z
  · obtain ⟨v, hv⟩ := I.cell x c q
    exact ⟨v, hv.sameBut hs (I.cne x c q)⟩
  · obtain ⟨z1, z2, z3, z4⟩ := I.pin p hp
    exact ⟨(hs.2 _ z3).trans z1, z2, z3, z4⟩
  · refine (I.hok b ob q).stay (fun c w' hc z => (hs.2 c ?_).trans z) (fun _ z => z) fun _ _ z => z
    rintro rfl
    have hfree : H X.env.locals = none := I.free
    rcases hc with rfl | hc
    · rw [hfree] at q; cases q
    · rw [hfree] at hc; cases hc
end
noncomputable def ExM (K : PySem.W.Frag) (mg : Str → Option Value) (c d : Str) : Prop :=
  ∃ C D, mg c = some (.ref C) ∧ PySem.W.nsIn K mainGlobals c = some (some (.ref C)) ∧ mg d = some (.ref D) ∧ PySem.W.exmOne K (.ref C) (.ref D) = some true
noncomputable def tryO (cs : List Str) (i : Nat) (F2 : FS) : Out → Out
  | .exc c δ => if c ∈ cs then (match F2 (δ.set i (some (.v (.exn c)))) with | .rt d => .rt d | _ => .bad) else .bad
  | o => o
noncomputable def tryS (cs : List Str) (i : Nat) (F1 F2 : FS) : FS := fun δ => tryO cs i F2 (F1 δ)
section
variable {X : Cx} {B G₀ : Hp} {F1 F2 : FS} {cls en : Str} {np hpos pos : Pos} {body suite : List Stmt} {b₀ : Stmt} {cs : List Str}
end
end M

set_option Elab.async false
set_option linter.all false
set_option maxRecDepth 100000
set_option maxHeartbeats 4000000
namespace M
open PySem PySem.Spec PyProof.Rows L2
set_option autoImplicit false

noncomputable def IsxK (K : PySem.W.Frag) (c : Str) (v : Value) : Prop := ∃ C, PySem.W.nsIn K mainGlobals c = some (some (.ref C)) ∧ PySem.W.kitOne K (.ref C) v = some true
theorem exn_isi {K : PySem.W.Frag} {e C : Addr} {c : Value} {hp : Heap → Prop} (ty : ∀ h : Heap, hp h → ∃ o, h.get? e = some o ∧ o.cls = .ref C) (he : PySem.W.kitOne K (.ref C) c = some true) :
    Answers (fun s => K.In s.heap ∧ hp s.heap) (.ref e) c true := by
  intro dep tk prog w A R s hs
  obtain ⟨hp0, gens, dr, tt, os⟩ := s
  obtain ⟨⟨X, p⟩, hq⟩ := hs
  obtain ⟨o, z1, z2⟩ := ty hp0 p
  have LT : PySem.W.Looks (model prog w) hp0 (typeOf (.ref e)) (.ref C) := z2 ▸ (PySem.W.Looks.ld z1).andThen .now
  unfold PySem.W.kitOne at he
  unfold Builtin.«isinstance.nested»
  refine wpAny_bind (LT.at ?_)
  by_cases q : (Value.ref C == c) = true
  · rw [if_pos q]
    first
      | exact wpAny_bind (wpAny_rule (hq tt))
      | exact wpAny_bind (wpAny_rule (wpAny_pure (hq tt)))
  · rw [if_neg q] at he ⊢
    obtain ⟨t1, t2, t3⟩ := PySem.W.kit_cls (M := model prog w) X he
    have LI : PySem.W.Looks (model prog w) hp0 (isInstance (.ref e) c) true := LT.andThen t3
    refine wpAny_bind (t1.at ?_); rw [if_pos (by decide)]
    k_delta "plainIsInstance"
    refine wpAny_bind (wpAny_bind (t2.at ?_)); simp only [Bool.not_true, Bool.false_eq_true, if_false]
    refine wpAny_bind (LI.at ?_); simp only [if_true]
    first
      | exact wpAny_pure (wpAny_pure (hq tt))
      | exact wpAny_pure (hq tt)
      | exact wpAny_bind (wpAny_pure (wpAny_pure (hq tt)))
noncomputable def isxR (cs : List Str) : D → Rs D
  | .exn c => if c ∈ cs then .ok (.bl true) else .bad
  | _ => .bad
noncomputable def isxF (cs : List Str) (fe : FE) : FE := fun δ => fe δ >>= isxR cs
section
variable {X : Cx} {B G₀ : Hp} {e : Expr} {fe : FE} {cs : List Str} {p pos : Pos}
theorem cr_isx {cV : V} {cv : Value} (hr : ∀ u, RelV cV u → u = cv) (hT : ∀ c ∈ cs, IsxK X.K c cv) : CallR X (.builtin "isinstance") (fun xs H Q => ∃ x c, xs = [x, cV] ∧ Is X.K H (.exn c) x ∧ c ∈ cs ∧ Q (.bl true) H) := by
  intro pins s σ H xs us Q I r h
  obtain ⟨x, c, rfl, ⟨a, φ, C, rfl, h1, h2, h3⟩, hc, q⟩ := h
  obtain ⟨u, w, rfl, r1, r2⟩ := vals2 r
  cases (show u = .ref a from r1)
  cases hr w r2
  obtain ⟨C', n1, n2⟩ := hT c hc
  rw [h3] at n1; cases n1
  have hφ : φ s.heap := (I.hok a _ h1).1
  exact call_isinstance (S := fun _ R s => (X.K.In s.heap ∧ φ s.heap) ∧ ∀ tk, R (.ok (.ret (.bool true))) { s with toks := tk })
    (fun prog w A R s hs => isinstance_outer (exn_isi h2 n2 0 _ prog w A R s hs) (fun z => nomatch z)) ⟨⟨I.kIn, hφ⟩, fun tk => ⟨.bl _, H, I.tok tk, rfl, q⟩⟩
theorem isx_done {cV : V} {σ : St} {H G : Hp} {δ : DS} {Q : VK} (R : Rel X B G₀ σ H G δ) (hw : W X Q σ H G (isxF cs fe δ)) :
    W X (fun v H' => ∃ c, Is X.K H' (.exn c) v ∧ c ∈ cs ∧ Q (.bl true) H') σ H G (fe δ) := by
  unfold isxF W at hw
  rw [wp_bind] at hw
  refine Rs.wp.mono hw (fun _ x => x) fun d q v H1 G1 e1 i1 => ?_
  cases d with
  | exn c =>
    have q : (if c ∈ cs then Rs.ok (D.bl true) else .bad).wp (fun c => Xo X c σ H G) fun d => ∀ v H' G', Ext H G H' G' → Is X.K G' d v → Q v H' := q
    split at q
    · rename_i hc
      exact ⟨c, i1.same e1.gh, hc, q _ H1 G1 e1 rfl⟩
    · exact q.elim
  | _ => exact q.elim
theorem q_isx {y : Str} {p2 : Pos} (hT : ∃ D, X.mg y = some (.ref D) ∧ ∀ c ∈ cs, IsxK X.K c (.ref D)) (hm : X.mg "isinstance" = none) (ha : PE X e (tE X B G₀ fe)) (hg : Gl X "isinstance" := by rfl) (hg2 : Gl X y := by rfl)
    (hd2 : (y == ("__debug__" : Str)) = false := by decide) (hs1 : starEach [e, .Name y p2] X.env = (false, eval e X.env) :: starEach [.Name y p2] X.env := by rfl) :
    PE X (.Call (.Name "isinstance" p) [e, .Name y p2] [] pos) (tE X B G₀ (isxF cs fe)) := by
  obtain ⟨D0, m2, hT⟩ := hT
  refine pd_of (pe_callB (cr_isx (cV := .ref D0) (cv := .ref D0) (fun u r => r) hT) hg hm PyProof.Rows.boot_isinstance (pa_cons ha (pa_cons (pe_glob (v := .ref D0) hg2 m2 rfl hd2) pa_nil) hs1) (by decide) (by decide) hs1) fun σ H G δ Q R hw => ?_
  refine ⟨G, δ, R, Rs.wp.mono (isx_done (cV := .ref D0) R hw) (fun _ x => x) fun d q v H1 G1 e1 i1 => ?_⟩
  obtain ⟨c, z1, z2, z3⟩ := q v H1 G1 e1 i1
  exact ⟨v, c, rfl, z1, z2, z3⟩
theorem q_isxT {y : Str} {p2 : Pos} {T : String} (hT : ∀ c ∈ cs, IsxK X.K c (.type T)) (hm : X.mg "isinstance" = none) (hm2 : X.mg y = none) (hv2 : bootBuiltins y = some (.type T)) (ha : PE X e (tE X B G₀ fe)) (hg : Gl X "isinstance" := by rfl) (hg2 : Gl X y := by rfl)
    (hn2 : y ≠ "__name__" := by decide) (hd2 : (y == ("__debug__" : Str)) = false := by decide) (hs1 : starEach [e, .Name y p2] X.env = (false, eval e X.env) :: starEach [.Name y p2] X.env := by rfl) :
    PE X (.Call (.Name "isinstance" p) [e, .Name y p2] [] pos) (tE X B G₀ (isxF cs fe)) := by
  refine pd_of (pe_callB (cr_isx (cV := .ty T) (cv := .type T) (fun u r => r) hT) hg hm PyProof.Rows.boot_isinstance (pa_cons ha (pa_cons (pe_bltn (v := .ty T) hg2 hm2 hv2 rfl hn2 hd2) pa_nil) hs1) (by decide) (by decide) hs1) fun σ H G δ Q R hw => ?_
  refine ⟨G, δ, R, Rs.wp.mono (isx_done (cV := .ty T) R hw) (fun _ x => x) fun d q v H1 G1 e1 i1 => ?_⟩
  obtain ⟨c, z1, z2, z3⟩ := q v H1 G1 e1 i1
  exact ⟨v, c, rfl, z1, z2, z3⟩
variable {iter c : Expr} {sts : List Stmt} {f : FA} {F : FS} {gc : FT}
end
@[simp] theorem thn_exc (c : Str) (δ : DS) (F : FS) : (Out.exc c δ).thn F = .exc c δ := nodef rfl
@[simp] theorem s_isxR (cs : List Str) (c : Str) : isxR cs (.exn c) = if c ∈ cs then .ok (.bl true) else .bad := nodef rfl
@[simp] theorem s_isxF (cs : List Str) (fe : FE) (δ : DS) : isxF cs fe δ = (fe δ >>= isxR cs) := nodef rfl
@[simp] theorem s_tryS (cs : List Str) (i : Nat) (F1 F2 : FS) (δ : DS) : tryS cs i F1 F2 δ = tryO cs i F2 (F1 δ) := nodef rfl
@[simp] theorem s_tryOrt (cs : List Str) (i : Nat) (F2 : FS) (d : D) : tryO cs i F2 (.rt d) = .rt d := nodef rfl
@[simp] theorem s_tryOnx (cs : List Str) (i : Nat) (F2 : FS) (δ : DS) : tryO cs i F2 (.nx δ) = .nx δ := nodef rfl
@[simp] theorem s_tryOexc (cs : List Str) (i : Nat) (F2 : FS) (c : Str) (δ : DS) : tryO cs i F2 (.exc c δ) = if c ∈ cs then (match F2 (δ.set i (some (.v (.exn c)))) with | .rt d => .rt d | _ => .bad) else .bad := nodef rfl
end M

set_option Elab.async false
set_option linter.all false
set_option maxRecDepth 100000
set_option maxHeartbeats 4000000
namespace M
open PySem PySem.Spec PyProof.Rows L2
set_option autoImplicit false

noncomputable def FreshL (K : PySem.W.Frag) (H G : Hp) (ds : List D) (Q : VK) : Prop := ∀ a xs H' G', Ext H G H' G' → H a = none → H' a = some (.lst xs) → G' a = none → xs.length ≤ sizeLine → IsL K G' ds xs → Q (.ref a) H'
noncomputable def WFr (X : Cx) (Q : VK) (σ : St) (H G : Hp) (r : Rs (List D)) : Prop := r.wp (fun c => Xo X c σ H G) fun ds => FreshL X.K H G ds Q
noncomputable def tFr (X : Cx) (B G₀ : Hp) (f : FA) : TE := fun σ H Q => ∃ G δ, Rel X B G₀ σ H G δ ∧ WFr X Q σ H G (f δ)
theorem Rel.setOwn2 {X : Cx} {B G₀ : Hp} {σ : St} {H G H1 G1 : Hp} {δ : DS} (R : Rel X B G₀ σ H G δ) (e1 : Ext H G H1 G1) (i : Nat) {ds : List D} {a : Addr} {xs : List V} (h1 : H a = none) (ha : H1 a = some (.lst xs)) (hG : G1 a = none) (hz : xs.length ≤ sizeLine) (hI : IsL X.K G1 ds xs) :
    Rel X B G₀ (σ.set i (some (.ref a))) H1 G1 (δ.set i (some (.own ds))) := by
  have R1 := R.mono e1
  have hBa : B a = none := R.ext.hh.free h1
  have ne : ∀ (j : Nat) {k0 : Kd} (es : List D), δ[j]? = some (some (.ow k0 es)) → ∀ b, σ[j]? = some (some (.ref b)) → b ≠ a := fun j k0 es q b hb e => by
    obtain ⟨c, ys, q1, q2, _⟩ := R.own j es q
    rw [hb] at q1; cases q1
    rw [e, h1] at q2; cases q2
  refine ⟨R1.ext, by simp [R.len], fun j e q => ?_, fun j k0 es q => ?_, fun j k k1 k2 ds1 es1 b q1 q2 q3 q4 => ?_⟩
  · by_cases hj : i = j
    · subst hj
      rw [List.getElem?_set] at q
      simp only [if_true] at q
      split at q <;> cases q
    · rw [List.getElem?_set_ne hj] at q ⊢
      exact R1.val j e q
  · by_cases hj : i = j
    · subst hj
      rw [List.getElem?_set] at q
      simp only [if_true] at q
      split at q
      · rename_i hl
        cases q
        refine ⟨a, xs, ?_, ha, hG, hBa, hz, hI⟩
        rw [List.getElem?_set]; simp only [if_true]; rw [if_pos (by rw [R.len]; exact hl)]
      · cases q
    · rw [List.getElem?_set_ne hj] at q
      obtain ⟨c, ys, z1, z2⟩ := R1.own j es q
      exact ⟨c, ys, by rw [List.getElem?_set_ne hj]; exact z1, z2⟩
  · have at_i : ∀ {b : Addr} {j : Nat}, i = j → (σ.set i (some (V.ref a)))[j]? = some (some (.ref b)) → b = a := fun {b j} e q => by
      subst e
      rw [List.getElem?_set] at q
      simp only [if_true] at q
      split at q
      · cases q; rfl
      · cases q
    by_cases hj : i = j
    · by_cases hk : i = k
      · exact hj.symm.trans hk
      · exfalso
        have e := at_i hj q3
        rw [List.getElem?_set_ne hk] at q2 q4
        exact ne k es1 q2 b q4 e
    · by_cases hk : i = k
      · exfalso
        have e := at_i hk q4
        rw [List.getElem?_set_ne hj] at q1 q3
        exact ne j ds1 q1 b q3 e
      · rw [List.getElem?_set_ne hj] at q1 q3
        rw [List.getElem?_set_ne hk] at q2 q4
        exact R.apart j k ds1 es1 b q1 q2 q3 q4
noncomputable def setFS (i : Nat) (f : FA) : FS := fun δ => (f δ).out δ fun ds => .nx (δ.set i (some (.own ds)))
noncomputable def seqF (F1 : FS) (f : FA) : FA := fun δ => match F1 δ with
  | .nx δ' => f δ'
  | _ => .bad
noncomputable def finO : Rs (List D) → Rs (List D)
  | .ok ds => .ok ds
  | _ => .bad
noncomputable def fnO (n m : Nat) (F : FA) (ds : List D) : Rs (List D) := if ds.length = n then finO (F (ds.map vsl ++ List.replicate m none)) else .bad
noncomputable def spO (K : PySem.W.Frag) (g : List D → Rs (List D)) (n : Nat) : Sp := fun vs H Q _ => ∃ G ds, Same G H ∧ IsL K G ds vs ∧ ds.length = n ∧ (g ds).wp (fun _ => False) fun es => FreshL K H G es Q
structure FnO (P : Program) (w : World) (K : PySem.W.Frag) (mg : Str → Option Value) (base : Heap) (x : Str) (k n : Nat) (g : List D → Rs (List D)) : Prop where
  ex : ∃ (f : Addr) (fd : FuncData) (ps : List Str), FnOk P w K mg base CX0 k f fd ps (spO K g n) ∧ Binds K fd ps [] ∧ mg x = some (.ref f) ∧ PySem.W.keepIn K (.ref f) = true
  len : ∀ ds, ds.length ≠ n → g ds = .bad
  ne : ∀ ds c, g ds ≠ .exc c
section
variable {X : Cx} {B G₀ : Hp} {e : Expr} {es : List Expr} {f : FA} {fr : FA} {F1 : FS} {x : Str} {p pos pos' : Pos} {st : Stmt} {rest : List Stmt} {k n : Nat}
theorem q_setF (i : Nat) (hN : X.N.Nodup) (he : PE X e (tFr X B G₀ f)) (hi : X.N[i]? = some x := by rfl) (hx : Loc X.env.scope x := by first | exact Or.inl rfl | exact Or.inr rfl) (hs : swapsWith e (some (.Name x pos')) pos.line X.env = pure false := by rfl)
    (hf : X.fn x = true ∨ X.env.scope.names.lookup x = some .local := by first | exact .inl rfl | exact .inr rfl | assumption) :
    PS X (.Assign [.Name x pos'] e pos) (tS X B G₀ (setFS i f)) := by
  refine ps_imp (ps_set hN hi hx he hs hf) fun D' σ H ⟨G, δ, R, hw⟩ => ⟨G, δ, R, ?_⟩
  have hw : WS X B G₀ D' ((f δ).out δ fun ds => .nx (δ.set i (some (.own ds)))) := hw
  cases q : f δ with
  | exc c => rw [q] at hw; exact fun pins s' H' G' ev e I x => hw pins σ s' H' G' ev (R.mono e) I x
  | bad => rw [q] at hw; exact hw.elim
  | ok ds => rw [q] at hw; exact fun a xs H1 G1 e1 h1 h2 h3 h4 h5 => hw _ H1 G1 (R.setOwn2 e1 i h1 h2 h3 h4 h5)
noncomputable def listO : List D → Rs (List D)
  | [.lst ds] => .ok ds
  | [.tup ds] => .ok ds
  | _ => .bad
end
section
variable {P : Program} {w : World} {K : PySem.W.Frag} {mg : Str → Option Value} {base : Heap}
end
@[simp] theorem s_setFS (i : Nat) (f : FA) (δ : DS) : setFS i f δ = (f δ).out δ fun ds => .nx (δ.set i (some (.own ds))) := nodef rfl
@[simp] theorem s_finO (ds : List D) : finO (.ok ds) = .ok ds := nodef rfl
@[simp] theorem s_fnO1 (m : Nat) (F : FA) (a : D) : fnO 1 m F [a] = finO (F (some (.v a) :: List.replicate m none)) := nodef rfl
@[simp] theorem s_fnO3 (m : Nat) (F : FA) (a b c : D) : fnO 3 m F [a, b, c] = finO (F (some (.v a) :: some (.v b) :: some (.v c) :: List.replicate m none)) := nodef rfl
@[simp] theorem s_fnO4 (m : Nat) (F : FA) (a b c d : D) : fnO 4 m F [a, b, c, d] = finO (F (some (.v a) :: some (.v b) :: some (.v c) :: some (.v d) :: List.replicate m none)) := nodef rfl
noncomputable def appO (g : List D → Rs (List D)) (fr : FA) : FA := fun δ => fr δ >>= g
@[simp] theorem s_appO (g : List D → Rs (List D)) (fr : FA) (δ : DS) : appO g fr δ = (fr δ >>= g) := nodef rfl
noncomputable def ownF (i : Nat) : FA := fun δ => getO δ i
@[simp] theorem s_ownF (i : Nat) (δ : DS) : ownF i δ = getO δ i := nodef rfl
noncomputable def ofNx (o : Out) (f : FA) : Rs (List D) := match o with
  | .nx δ => f δ
  | _ => .bad
@[simp] theorem s_seqF (F1 : FS) (f : FA) (δ : DS) : seqF F1 f δ = ofNx (F1 δ) f := by unfold seqF ofNx; rfl
@[simp] theorem s_ofNx (δ : DS) (f : FA) : ofNx (.nx δ) f = f δ := nodef rfl
@[simp] theorem s_listO (z : List D) : listO [.lst z] = .ok z := nodef rfl
end M

set_option Elab.async false
set_option linter.all false
set_option maxRecDepth 100000
set_option maxHeartbeats 4000000
namespace M
open PySem PySem.Spec PyProof.Rows L2
set_option autoImplicit false

noncomputable def compX (elt : D → Rs D) : List D → Rs (List D)
  | [] => .ok []
  | d :: ds => elt d >>= fun e => compX elt ds >>= fun r => .ok (e :: r)
noncomputable def bigX (ds : List D) (r : Rs (List D)) : Rs D := if ds.length ≤ 1000000 then r >>= fun es => .ok (.lst es) else .bad
theorem compX_ok {elt : D → Rs D} : ∀ {ds r : List D}, compX elt ds = .ok r → compL elt (fun _ => .ok true) ds = .ok r
  | [], r, h => h
  | d :: ds, r, h => by
    unfold compX at h
    unfold compL
    cases q : elt d with
    | exc c => rw [q] at h; cases h
    | bad => rw [q] at h; cases h
    | ok e =>
      rw [q, ok_bind] at h
      cases q2 : compX elt ds with
      | exc c => rw [q2] at h; cases h
      | bad => rw [q2] at h; cases h
      | ok r2 =>
        rw [q2, ok_bind] at h
        cases h
        simp only [compX_ok q2]
theorem noteFrame_env {e : Value} {env env' : Env} (h : env.frame = env'.frame) : noteFrame e env = noteFrame e env' := by
  unfold noteFrame PySem.frameOf
  rw [h]
theorem funFrames_less {h b b' : Heap} (k : ∀ a, b.get? a = none → b'.get? a = none) : ∀ {l : List Env}, h.FunFrames b l → h.FunFrames b' l
  | [], _ => trivial
  | env :: _, ⟨hk, ⟨L, o, hf, hn, ho, hd⟩, hr⟩ => ⟨hk, ⟨L, o, hf, k L hn, ho, hd⟩, funFrames_less k hr⟩
theorem hide_none {h : Heap} {C b : Addr} (e : h.get? b = none) : (h.hide C).get? b = none := by
  cases q : (h.hide C).get? b with
  | none => rfl
  | some o => rw [Heap.of_hide q] at e; cases e
theorem FunFrames_keep {h h' b : Heap} : ∀ {l : List Env}, h.FunFrames b l → (∀ a ∈ frs l, h'.get? a = h.get? a) → h'.FunFrames b l
  | [], _, _ => trivial
  | env :: r, ⟨hk, ⟨L, o, hf, hn, ho, hd⟩, hr⟩, k => ⟨hk, ⟨L, o, hf, hn, (k L (List.mem_filterMap.mpr ⟨env, .head _, hf⟩)).trans ho, hd⟩, FunFrames_keep hr fun a ha => k a (by
      obtain ⟨e, he, hf'⟩ := List.mem_filterMap.mp ha
      exact List.mem_filterMap.mpr ⟨e, .tail _ he, hf'⟩)⟩
theorem isX_off {X : Cx} {H : Hp} {s : Shared} {e Cc C : Addr} {Bk : Heap} {H' : Hp} {h1 h2 : Heap} {t : Addr} {fl : Value} (hok0 : HOk X.prog X.w H' Bk) (hCn : H C = none) {oC : Obj} (hC : s.heap.get? C = some oC) (hCd : ∀ vs, oC.data ≠ .fields vs) (hCf : C ∉ frs X.stack)
    (w1 : Bk.StaysIn h1) (w3 : h1.FunFrames Bk X.stack) (w4 : h1.TracedAtW Bk e (.ref Cc) (.ref t) fl)
    (hu : UnB (frs X.stack) H H' s.heap Bk h1) (sb : Heap.SameBut C h1 h2) : (Bk.hide C).StaysIn h2 ∧ h2.FunFrames (Bk.hide C) X.stack ∧ h2.TracedAtW (Bk.hide C) e (.ref Cc) (.ref t) fl ∧ HOk X.prog X.w H' (Bk.hide C) ∧ UnB (frs X.stack) H H' (s.heap.hide C) (Bk.hide C) h2 := by
  have hBC : Bk.get? C = some oC := hu.keep C oC hC hCn hCf
  have hC1 : h1.get? C = some oC := w1 C oC hBC
  have hCn' : H' C = none := hu.free C oC hC hCn
  have st : (Bk.hide C).StaysIn h2 := fun b o q => by
    have hb : b ≠ C := fun z => by subst z; rw [Heap.hide_self] at q; cases q
    exact (sb.2 b hb).trans (w1 b o (Heap.of_hide q))
  have ff : h2.FunFrames (Bk.hide C) X.stack := by
    refine funFrames_less (fun a z => hide_none z) (FunFrames_keep w3 ?_)
    intro b hb
    exact sb.2 b fun z => hCf (z ▸ hb)
  have tr : h2.TracedAtW (Bk.hide C) e (.ref Cc) (.ref t) fl := by
    obtain ⟨oe, us, Tr, oTr, rs, x1, x2, x4, x5, x6, x7, x8, x9, x10⟩ := w4
    have ne : e ≠ C := fun z => by subst z; rw [x1] at hC1; cases hC1; exact hCd us x4
    have nT : Tr ≠ C := fun z => by subst z; rw [x8] at hC1; cases hC1; exact hCd rs x9
    exact ⟨oe, us, Tr, oTr, rs, (sb.2 e ne).trans x1, x2, x4, x5, hide_none x6, x7, (sb.2 Tr nT).trans x8, x9, x10⟩
  refine ⟨st, ff, tr, fun b ob q => ?_, fun b o q n hb => ?_, fun b o q n hb => ?_, fun b o q n => hu.free b o (Heap.of_hide q) n, hu.same⟩
  · refine (hok0 b ob q).stay (fun x o hx z => (Heap.hide_ne Bk ?_).trans z) (fun _ z => z) fun _ _ z => z
    rintro rfl
    rcases hx with rfl | hx
    · rw [hCn'] at q; cases q
    · rw [hCn'] at hx; cases hx
  · have hbC : b ≠ C := fun z => by subst z; rw [Heap.hide_self] at q; cases q
    exact (Heap.hide_ne Bk hbC).trans (hu.keep b o (Heap.of_hide q) n hb)
  · obtain ⟨sl, z⟩ := hu.slot b o (Heap.of_hide q) n hb
    exact ⟨sl, (sb.2 b fun w => hCf (w ▸ hb)).trans z⟩
theorem passOn_any {Mo : Model} {A : Around} {E : Value → Shared → Prop} {s : Shared} {Bk : Heap} {l : List Env} {e C t : Addr} {fl : Value} {what : String} {env : Env} (w1 : Bk.StaysIn s.heap) (w3 : s.heap.FunFrames Bk l) (x : s.heap.TracedAtW Bk e (.ref C) (.ref t) fl)
    (hQ : ∀ h' fl', Bk.StaysIn h' → h'.FunFrames Bk l → h'.TracedAtW Bk e (.ref C) (.ref t) fl' → s.heap.UpToSlots h' → E (.ref e) { s with heap := h' }) : wpAny Mo A (PySem.passOn what (.ref e) env : Sem Value) (fun _ _ => False) E s := by
  obtain ⟨oe, vs, T, oT, ts, he, hcls, hd, h1, hnT, hTe, hT, hdT, h3⟩ := x
  have hsz3 : 3 < ts.size := (Array.getElem?_eq_some_iff.mp h3).1
  have oth : ∀ b, b ≠ T → (s.heap.update T (Obj.mapFields (·.setIfInBounds 3 (env.frame.elim Value.none fun f => rawInt f)))).get? b = s.heap.get? b := fun b z => Heap.get?_update_other _ _ (Ne.symm z)
  have nrc : ∀ b o, s.heap.get? b = some o → (∀ vs, o.data ≠ .fields vs) → b ≠ T := fun b o z nf q => by subst q; rw [hT] at z; cases z; exact nf ts hdT
  unfold PySem.passOn
  refine wpAny_bind (wpAny_field he hd h1 ?_)
  rw [if_neg (show ¬ ((Value.ref T == Value.none) = true) from by simp)]
  unfold setFlight
  refine wpAny_bind (wpAny_bind (wpAny_field he hd h1 ?_)); rw [if_pos (show (Value.ref T != Value.none) = true from by simp)]
  refine wpAny_setField hT hdT hsz3 (wpAny_throw (hQ _ (env.frame.elim Value.none fun f => rawInt f) (fun b o z => (oth b fun q => by subst q; rw [hnT] at z; cases z).trans (w1 b o z)) (w3.of_keeps fun b o z nf => ⟨o, (oth b (nrc b o z nf)).trans z, rfl⟩) ?_ fun b o z nf => ⟨o.slots, (oth b (nrc b o z nf)).trans z⟩))
  exact ⟨oe, vs, T, _, _, (oth e (Ne.symm hTe)).trans he, hcls, hd, h1, hnT, hTe, Heap.get?_update_self _ hT (Obj.isFreed_of_fields (Obj.data_mapFields hdT _)), Obj.data_mapFields hdT _, by simp [hsz3]⟩
inductive CompIX (X : Cx) (Y : Cx) (fp : List Addr) (tn : Nat → Heap → Prop) (inn : Option V → St) (cl : List D → Rs (List D)) (H2 G2 : Hp) (Dl : Addr) (ds : List D) (c : Str) (n : Nat) (s' : Shared) : Prop
  | mk (k : Nat) (vx : Option V) (H' G' : Hp) (ys : List V) (es : List D) (h1 : k ≤ ds.length) (h2 : n = ds.length - k) (h3 : Inv Y [] (inn vx) H' s') (h4 : tn k s'.heap) (h5 : ∀ b ∈ fp, H' b = none)
      (h6 : Ext H2 G2 H' G') (h7 : G' Dl = none) (h8 : H' Dl = some (.lst ys)) (h9 : IsL X.K G' es ys) (h10 : es.length ≤ k) (h11 : cl (ds.drop k) = .exc c)
theorem comp_exc {X : Cx} {B G₀ : Hp} {elt iter : Expr} {x : Str} {px : Pos} {scope sc : Scope} {N : List Str} {pos : Pos} {f : DS → Rs (List D)} {fe : DS → Rs D} (fr : List (Str × Nat)) (hok : compOk sc scope N x fr = true) (hsc : X.env.scope = sc) (hN : X.N = N) (hcalm : X.calm = true)
    (hst : X.stack = X.env :: X.outer) (hfm : X.env.frame = some X.env.locals)
    (hi : PI X (.Name x px) iter (tI X B G₀ f)) (he : ∀ C s₀ H₀ fp E B' G', PE ((compCx X scope x fr C s₀ H₀ fp).wish E) elt (tE ((compCx X scope x fr C s₀ H₀ fp).wish E) B' G' fe))
    (hs : ∀ x, foldedSetIterable iter X.env x = pure x)
    {use : Option (Value → Sem Unit)} {Post : Value → Shared → Prop} {pins : List (Addr × Obj)} {s : Shared} {σ : St} {H G : Hp} {δ : DS} {ds : List D} {c : Str} (I : Inv X pins σ H s) (R : Rel X B G₀ σ H G δ)
    (hds : f δ = .ok ds) (hlen : ds.length ≤ 1000000) (hc : compX (fun d => fe (innerD δ fr (some (.v d)))) ds = .exc c) (hw : Xo X c σ H G) :
    wpAny (model X.prog X.w) X.A (comprehension (.ListComp elt [⟨.Name x px, iter, [], 0⟩] scope pos) scope X.env (firstIterPos [⟨.Name x px, iter, [], 0⟩] pos) (newList []) (firstAsync [⟨.Name x px, iter, [], 0⟩]) (firstIter [⟨.Name x px, iter, [], 0⟩] X.env) use) Post X.xe s := by
  subst hsc; subst hN
  have cO := CompOk.of hok
  have hfree : ∀ y ∈ scope.names, y.2 = .free → ∃ d, X.env.cells.lookup y.1 = some d := fun y hy e => I.ok.has y.1 (cO.free y hy e)
  refine wpAny_comprehension_free (use := use) rfl hs (closureFor_cl hfree) cO.kind cO.loc ?_
  show wpAny (model X.prog X.w) X.A (eval iter X.env) _ X.xe s
  refine thn (hi pins s σ H (fun J H2 => ∃ G2, Ext H G H2 G2 ∧ ItD X J ds G2) I ⟨G, δ, R, by rw [hds]; exact fun J H2 G2 e2 hJ => ⟨G2, e2, hJ⟩⟩) fun v1 s1 h1 => thn h1 fun itv s2 h2 => ?_
  obtain ⟨it, fp, tn, J, H2, e, I2, T, st2, f2, G2, e2, hJ⟩ := h2
  subst e
  refine wpAny_newObj_type ?_ (Nat.zero_le _)
  -- the new list
  generalize hD : s2.heap.objs.size = Dl
  have I3 : Inv X pins σ (upd H2 Dl (.lst [])) { s2 with heap := s2.heap.push { cls := .type "list", dict := none, data := .seq ([] : List Value).toArray } } := by
    have := I2.lnew (ys := []) (its := []) (t' := s2.toks) .nil (Nat.zero_le _)
    rw [hD] at this
    exact this
  have hDn : H2 Dl = none := by rw [← hD]; exact I2.hok.fresh (Nat.le_refl _)
  generalize hs3 : ({ s2 with heap := s2.heap.push { cls := .type "list", dict := none, data := .seq ([] : List Value).toArray } } : Shared) = s3 at I3 ⊢
  have k23 : ∀ b o, s2.heap.get? b = some o → s3.heap.get? b = some o := fun b o e => by rw [← hs3]; exact Heap.get?_push_of_some _ e
  have f3 : ∀ b ∈ fp, FpOk X pins (upd H2 Dl (.lst [])) b := fun b hb => by
    obtain ⟨q0, q1, q2, q3, q4, q5⟩ := f2 b hb
    obtain ⟨o, ho, _⟩ := T.obj 0 _ st2 b hb
    refine ⟨?_, q1, q2, q3, q4, q5⟩
    rw [upd_ne (by rw [← hD]; exact Nat.ne_of_lt (Heap.lt_size ho))]
    exact q0
  have hfl : ∀ b ∈ fp, b < s3.heap.objs.size := fun b hb => by
    obtain ⟨o, ho, _⟩ := T.obj 0 _ st2 b hb
    exact Heap.lt_size (k23 b o ho)
  refine wpAny_newFunctionEnv cO.cell (by intro y hy; cases hy) (fun h' hns hsb => ?_) cO.kind
  have k34 : ∀ b o, s3.heap.get? b = some o → h'.get? b = some o := fun b o e => hsb.extBut b o (Nat.ne_of_lt (Heap.lt_size e)) (Heap.get?_push_of_some _ e)
  generalize hCd : s3.heap.objs.size = C at hns hsb
  show codeAny (model X.prog X.w) X.A (.compStart _ 0 (.ref it) (.ref Dl) (compEnvC scope (clOf X.env.cells scope.names []) C X.env)) _ _
  have IY : Inv (compCx X scope x fr C s3 (upd H2 Dl (.lst [])) fp) [] (innerS σ fr none) (upd H2 Dl (.lst [])) { s3 with heap := h', toks := s3.toks + ([] : List (Str × Value)).length } :=
    comp_ok cO I3 f3 hfl hCd.symm k34 rfl rfl hns
  have st4 : tn 0 h' := T.keep 0 _ _ st2 fun b hb o e => k34 b o (k23 b o e)
  generalize hs4 : ({ s3 with heap := h', toks := s3.toks + ([] : List (Str × Value)).length } : Shared) = s4 at IY ⊢
  have st4 : tn 0 s4.heap := by rw [← hs4]; exact st4
  have lt3 : ∀ b o, s3.heap.get? b = some o → b ≠ C := fun b o e => by rw [← hCd]; exact Nat.ne_of_lt (Heap.lt_size e)
  have hCst : C ∉ frs X.stack := fun hb => by
    obtain ⟨_, o, ho, _⟩ := I3.stack.mem hb
    exact lt3 C o ho rfl
  have loop : codeAny (model X.prog X.w) X.A (.compLoop (.ListComp elt [⟨.Name x px, iter, [], 0⟩] scope pos) 0 (.ref it) (.ref Dl) (compEnvC scope (clOf X.env.cells scope.names []) C X.env)) (compPost (model X.prog X.w) X.A X.xe use Post (.ref Dl) C) s4 := by
    refine comp_loop (CompIX X (compCx X scope x fr C s3 (upd H2 Dl (.lst [])) fp) fp tn (innerS σ fr) (compX fun d => fe (innerD δ fr (some (.v d)))) H2 G2 Dl ds c) ?_ ds.length
      ⟨0, none, _, G2, [], [], Nat.zero_le _, rfl, IY, st4, fun b hb => (f3 b hb).1, Ext.own e2.gh hDn, e2.gh.free hDn, upd_same, rfl, Nat.le_refl _, hc⟩
    rintro n s5 ⟨k, vx, H5, G5, ys, es, hk, rfl, I5, st5, fr5, e5, gD5, hD5, hL5, hz5, hr5⟩
    have f5 : ∀ {H' : Hp}, (∀ b ∈ fp, H' b = none) → ∀ {pins' : List (Addr × Obj)}, (∀ p ∈ pins', p.1 ∉ fp) → ∀ b ∈ fp, FpOk (compCx X scope x fr C s3 (upd H2 Dl (.lst [])) fp) pins' H' b := fun {H'} hn {pins'} hp b hb => by
      obtain ⟨q1, q2⟩ := IY.ok.exf b hb
      exact ⟨hn b hb, q1, IY.ok.exfs b hb, .inl hb, q2, fun p hp' z => hp p (by simpa [compCx] using hp') (z ▸ hb)⟩
    have nopins : ∀ p ∈ ([] : List (Addr × Obj)), p.1 ∉ fp := fun p hp => by cases hp
    obtain ⟨j1, j2⟩ := hJ H5 G5 e5.gg e5.gh
    by_cases hlt : k < ds.length
    · have hd : ds[k]? = some ds[k] := List.getElem?_eq_getElem hlt
      obtain ⟨go, yl⟩ := j1 k _ hd
      rw [List.drop_eq_getElem_cons hlt] at hr5
      refine wpAny_mono (T.item (compCx X scope x fr C s3 (upd H2 Dl (.lst [])) fp) rfl rfl rfl hcalm k [] s5 _ H5 (fun _ _ => False) I5 (f5 fr5 nopins) st5 go) (fun r s6 ⟨u, hr, h6⟩ => ?_) fun _ _ z => z.elim
      subst hr
      refine wpAny_mono h6 (fun _ s7 ⟨xv, H7, I7, r7, y7, st7, fr7⟩ => ?_) fun _ _ z => z.elim
      obtain ⟨G7, e7, i7⟩ := yl xv H7 y7
      have I7' := I7.pinned (f5 fr7 nopins) (T.obj _ _ st7)
      have hg : PG (compCx X scope x fr C s3 (upd H2 Dl (.lst [])) fp) (.Name x px) (gName 0) := pg_name cO.nd rfl (.inl (lookup_relabel_local cO.hx)) (.inr (lookup_relabel_local cO.hx))
      refine wpAny_mono (hg _ s7 _ H7 xv u (fun σ' H' => σ' = innerS σ fr (some xv) ∧ H' = H7) I7' r7 ⟨by simp [innerS], rfl⟩) (fun _ s8 ⟨σ8, H8, I8, hσ8, hH8⟩ => ?_) fun _ _ z => z.elim
      subst hσ8; subst hH8
      have R8 := rel_inner (X := X) (Y := compCx X scope x fr C s3 (upd H2 Dl (.lst [])) fp) rfl (R.mono e2) (e5.gg.trans e7.gg) e7.gh fr i7
      have keepD : ∀ {Ha Ga Hb Gb : Hp}, Ext Ha Ga Hb Gb → Ga Dl = none → (∃ o, Ha Dl = some o) → Gb Dl = none := fun {Ha Ga Hb Gb} e g ⟨o, h⟩ => by
        cases q : Gb Dl with
        | none => rfl
        | some z =>
          rcases e.new Dl z q with w | w
          · rw [g] at w; cases w
          · rw [h] at w; cases w
      have e57 := e5.trans e7
      have gD7 := keepD e7 gD5 ⟨_, hD5⟩
      have hD7 := e7.hh _ _ hD5
      refine wpAny_tests_nil ?_
      show wpAny (model X.prog X.w) X.A (eval elt (compEnvC scope (clOf X.env.cells scope.names []) C X.env)) (CTn.add _) (CTn.e _) s8
      unfold compX at hr5
      cases qe : fe (innerD δ fr (some (.v ds[k]))) with
      | bad => rw [qe] at hr5; cases hr5
      | ok ev =>
        rw [qe, ok_bind] at hr5
        have hr5 : compX (fun d => fe (innerD δ fr (some (.v d)))) (ds.drop (k + 1)) = .exc c := by
          cases q : compX (fun d => fe (innerD δ fr (some (.v d)))) (ds.drop (k + 1)) with
          | ok r => rw [q] at hr5; cases hr5
          | bad => rw [q] at hr5; cases hr5
          | exc c' => rw [q] at hr5; exact hr5
        refine wpAny_mono (he C s3 (upd H2 Dl (.lst [])) fp (fun _ _ => False) (fun _ => none) G7 _ s8 _ H8 (fun v H' => ∃ G', Ext H8 G7 H' G' ∧ Is X.K G' ev v) (I8.wish _) ⟨G7, _, R8.cx, ?_⟩) (fun yv s10 ⟨v10, H10, I10w, r10, G10, e10, i10⟩ => ?_) fun _ _ z => z.elim
        · rw [qe]; exact fun v H' G' e i => ⟨G', e, i⟩
        have I10 := I10w.unwish
        have hD10 := e10.hh _ _ hD7
        have gD10 := keepD e10 gD7 ⟨_, hD7⟩
        have hl10 : ys.length < sizeLine := by
          have := hL5.length
          have h1 : (1000000 : Nat) < sizeLine := by decide
          omega
        refine wpAny_mono (mt_append (X := compCx X scope x fr C s3 (upd H2 Dl (.lst [])) fp) _ s10 _ H10 (.ref Dl) [v10] (.ref Dl) [yv] (fun _ H' => H' = upd H10 Dl (.lst (ys ++ [v10]))) I10 rfl (.cons r10 .nil) ⟨Dl, ys, v10, rfl, rfl, hD10, hl10, rfl⟩) (fun _ s11 ⟨_, H11, I11, _, hH11⟩ => ?_) fun _ _ z => z.elim
        subst hH11
        have e210 := e57.trans e10
        have e11 : Ext H2 G2 (upd H10 Dl (.lst (ys ++ [v10]))) G10 := ⟨fun b o q => by rw [upd_ne (ne_of_none q hDn)]; exact e210.hh b o q, e210.gg, fun b o q => by rw [upd_ne (ne_of_none q gD10)]; exact e210.gh b o q, e210.new⟩
        refine ⟨ds.length - (k + 1), by omega, k + 1, some xv, _, G10, ys ++ [v10], es ++ [ev], hlt, rfl, I11.unpinned, T.keep _ _ _ st7 fun b hb o e => (I11.pin (b, o) (List.mem_append_right _ (List.mem_append_right _ (mem_pinsAt hb e)))).1, fun b hb => ?_, e11, gD10, upd_same, (hL5.same (e7.gg.trans e10.gg)).append (IsL.one i10), ?_, hr5⟩
        · obtain ⟨o, e, d⟩ := T.obj _ _ st7 b hb
          exact (I11.pin (b, o) (List.mem_append_right _ (List.mem_append_right _ (mem_pinsAt hb e)))).2.1
        · rw [List.length_append]; simp only [List.length_singleton]; omega
      | exc c' =>
        rw [qe] at hr5
        have : c' = c := by cases hr5; rfl
        subst this
        refine wpAny_mono (he C s3 (upd H2 Dl (.lst [])) fp (fun ev s'' => ∃ pins' H' G' s', Ext H8 G7 H' G' ∧ Inv (compCx X scope x fr C s3 (upd H2 Dl (.lst [])) fp) pins' (innerS σ fr (some xv)) H' s' ∧ IsX X c' H' G' s' ev s'') (fun _ => none) G7 _ s8 _ H8 (fun _ _ => False) (I8.wish _) ⟨G7, _, R8.cx, ?_⟩) (fun yv s10 ⟨v10, H10, I10w, r10, z⟩ => z.elim) fun ev s10 hE => ?_
        · rw [qe]; exact fun pins' s' H' G' ev e I' s'' x => ⟨pins', H', G', s', e, I'.unwish, x⟩
        obtain ⟨pins', H9, G9, s9, e9, I9, e0, Cc, Bk, Hx, Gx, rfl, hm, hx, fl, ho, hbr, hok9, hnf, hu⟩ := hE
        obtain ⟨hp1, g1, d1, t1, o1⟩ := s10
        have ho : o1 = s9.os := ho
        subst ho
        have hfr : X.A.frames = some (X.env :: X.outer) := by rw [← hst]; exact I.ok.frames
        have fl' : Fl Bk (X.env :: X.outer) e0 Cc hp1 := by rw [← hst]; exact fl
        have hmem : ∀ b ∈ frs X.stack, b ∈ frs (X.env :: X.outer) := by rw [hst]; exact fun _ z => z
        show wpAny (model X.prog X.w) X.A (noteFrame (.ref e0) (compEnvC scope (clOf X.env.cells scope.names []) C X.env)) _ _ _
        rw [noteFrame_env (env := compEnvC scope (clOf X.env.cells scope.names []) C X.env) (env' := X.env) rfl]
        refine fl_note hfr hfm fl' fun h10 t hh up => ?_
        have u1 := hu.slots fl'.frames.1 hmem up
        obtain ⟨m9, hn9, _⟩ := id I9.loc
        have hn9 : s9.heap.Ns C m9 := hn9
        have hC9 : H9 C = none := I9.free
        obtain ⟨oC, esC, epC, q1, q2, q3⟩ := id hn9
        have hBC := u1.keep C oC q1 hC9 hCst
        have I7b : Inv X pins σ H9 s9 := I3.call' (s' := s9) I9.os I9.base I9.hok I9.bare fun b hb => by
          obtain ⟨q0, q1, q2, q3, q4, q5⟩ := f3 b hb
          exact ⟨q3, q1, q4, q5⟩
        have cok : COk X pins H9 C := by
          refine ⟨Nat.le_trans I3.sz (Nat.le_of_eq hCd), ?_, fun y c hc => ?_, fun p hp => ?_, hC9⟩
          · obtain ⟨m3, hm3, _⟩ := I3.loc
            rw [← hCd]; exact Nat.ne_of_gt hm3.lt
          · obtain ⟨w, hc3⟩ := I3.cell y c hc
            obtain ⟨o, ho, _⟩ := hc3
            exact lt3 c o ho
          · exact lt3 p.1 p.2 (I3.pin p hp).1
        have Iref : Inv X pins σ H9 { s9 with heap := s9.heap.hide C } := inv_offC I7b cok ⟨Heap.hide_size _ _, fun b hb => Heap.hide_ne _ hb⟩
        refine ⟨m9, ⟨oC, esC, epC, hh.1 C oC hBC, q2, q3⟩, fun h11 sb cenv _ => ?_⟩
        obtain ⟨v1, v2, v3, v4, v5⟩ := isX_off (X := X) (s := s9) hok9 hC9 q1 (fun vs z => by rw [q2] at z; cases z) hCst hh.1 (by rw [hst]; exact hh.2.2.1) hh.2.2.2 u1 sb
        refine passOn_any (s := ⟨h11, g1, d1, t1, s9.os⟩) v1 v2 v3 fun h12 fl' y1 y2 y3 up' => ?_
        exact hw pins { s9 with heap := s9.heap.hide C } H9 G9 (.ref e0) ((e2.trans e57).trans e9) Iref _ ⟨e0, Cc, Bk.hide C, Hx, Gx, rfl, hm, hx, .inl ⟨t, fl', y1, hide_none hh.2.1, y2, y3⟩, rfl, hbr, v4, hnf, v5.slots v2 (fun _ z => z) up'⟩
    · exfalso
      have hkl : k = ds.length := by omega
      subst hkl
      rw [List.drop_length] at hr5
      cases hr5
  exact codeAny_compStart_list loop (T.self X.A 0 s4 _ _ st4 loop)
noncomputable def compFX (fr : List (Str × Nat)) (f : FA) (fe : FE) : FE := fun δ => f δ >>= fun ds => bigX ds (compX (fun d => fe (innerD δ fr (some (.v d)))) ds)
@[simp] theorem s_compFX (fr : List (Str × Nat)) (f : FA) (fe : FE) (δ : DS) : compFX fr f fe δ = (f δ >>= fun ds => bigX ds (compX (fun d => fe (innerD δ fr (some (.v d)))) ds)) := nodef rfl
theorem s_bigX {ds : List D} (h : ds.length ≤ 1000000) (r : Rs (List D)) : bigX ds r = (r >>= fun es => .ok (.lst es)) := by unfold bigX; rw [if_pos h]
end M

set_option Elab.async false
set_option linter.all false
set_option maxRecDepth 100000
set_option maxHeartbeats 4000000
namespace M
open PySem PySem.Spec PyProof.Rows L2
set_option autoImplicit false

noncomputable def smulR : D → D → Rs D
  | .str x, .int i => if i = 1 then .ok (.str x) else .bad
  | _, _ => .bad
@[simp] theorem s_smul (x : Str) : smulR (.str x) (.int 1) = .ok (.str x) := nodef rfl
end M

set_option Elab.async false
set_option linter.all false
set_option maxRecDepth 100000
set_option maxHeartbeats 4000000
namespace M
open PySem PySem.Spec PyProof.Rows L2
set_option autoImplicit false

noncomputable def numS (i : Int) : Str := Str.ofString (toString i)
noncomputable def strR : List D → Rs D
  | [.int i] => if (decide (0 ≤ i) && decide (i < 10 ^ 100)) = true ∧ (numS i).length ≤ 1000000 ∧ PyData.strOk (numS i) = true then .ok (.str (numS i)) else .bad
  | [.str x] => .ok (.str x)
  | _ => .bad
theorem log2_small {i : Int} (h0 : 0 ≤ i) (h1 : i < 10 ^ 100) : i.natAbs.log2 < 1920 := by
  by_cases hz : i.natAbs = 0
  · rw [hz]; decide
  · rw [Nat.log2_lt hz]
    have h2 : i.natAbs < 10 ^ 100 := by omega
    exact Nat.lt_trans h2 (by decide +kernel)
section
variable {X : Cx} {B G₀ : Hp} {o e : Expr} {es : List Expr} {fo fe : FE} {fr : FA} {name : Str} {id : String} {p pos apos : Pos}
theorem cd_str : CallD X (.type "str") strR := by
  intro pins s σ H G Q ds vs us I gh r i hw
  unfold strR at hw
  split at hw
  · rename_i j
    obtain ⟨⟨h1, h2, h3⟩, hw⟩ := wIf (r := .ok (.str (numS j))) (c := (decide (0 ≤ j) && decide (j < 10 ^ 100)) = true ∧ (numS j).length ≤ 1000000 ∧ PyData.strOk (numS j) = true) hw
    rw [Bool.and_eq_true, decide_eq_true_eq, decide_eq_true_eq] at h1
    obtain ⟨v, rfl, hv⟩ := isL1 i
    cases (show v = .int j from hv)
    exact call_str_int pins s σ H _ us Q I r ⟨j, rfl, log2_small h1.1 h1.2, wOk hw gh ⟨rfl, Nat.le_trans h2 (Nat.le_of_lt million), h3⟩⟩
  · rename_i x
    obtain ⟨v, rfl, rfl, hz, ho⟩ := isL1 i
    obtain ⟨u, rfl, t, rfl⟩ := vals1 r
    exact PySem.P.str_of_str ⟨.str x, H, I, ⟨t, rfl⟩, wOk hw gh ⟨rfl, hz, ho⟩⟩
  · exact hw.elim
noncomputable def intTR : List D → Rs D
  | [.str x] => match PySem.intText? x with
    | some n => if x.length ≤ 640 then .ok (.int n) else .bad
    | none => .bad
  | _ => .bad
theorem cd_intT : CallD X (.type "int") intTR := by
  intro pins s σ H G Q ds vs us I gh r i hw
  unfold intTR at hw
  split at hw
  · rename_i x
    split at hw
    · rename_i n hn
      obtain ⟨hl, hw⟩ := wIf (r := .ok (.int n)) (c := x.length ≤ 640) hw
      obtain ⟨v, rfl, rfl, hz, ho⟩ := isL1 i
      obtain ⟨u, rfl, t, rfl⟩ := vals1 r
      exact PySem.W.KIN.call_text hn hl ⟨.int n, H, I.tok _, ⟨_, rfl⟩, wOk hw gh rfl⟩
    · exact hw.elim
  · exact hw.elim
noncomputable def startR (z : Str) : List D → Rs D
  | [.str y] => .ok (.bl (Txt.startswith z y))
  | _ => .bad
theorem mts_start : MtS X "str.startswith" startR := by
  intro pins s σ H G Q z t ds vs us I gh r hz hok i hw
  unfold startR at hw
  split at hw
  · rename_i y
    obtain ⟨v, rfl, rfl, hy, hyo⟩ := isL1 i
    obtain ⟨u, rfl, t2, rfl⟩ := vals1 r
    exact PySem.SC.startswith ⟨.bl _, H, I, rfl, wOk hw gh rfl⟩
  · exact hw.elim
noncomputable def splitL (z : Str) : List D → Rs (List D)
  | [.str y] => if y.length = 1 ∧ (Txt.split z y).length ≤ 1000000 ∧ ((Txt.split z y).all fun p => decide (p.length ≤ 1000000) && PyData.strOk p) = true then .ok ((Txt.split z y).map D.str) else .bad
  | _ => .bad
theorem vals_strs : ∀ (l : List Str) (k : Nat), Vals (l.map V.str) (strsFrom k l)
  | [], _ => .nil
  | x :: l, k => .cons ⟨k, rfl⟩ (vals_strs l (k + 1))
theorem split_run {A : Around} {E : Value → Shared → Prop} {s : Shared} {Q : Value → Shared → Prop} {x y : Str} {t u : Tok} {P : Program} {w : World} (hy : y.length = 1) (hx : x.length ≤ sizeLine) (hn : (Txt.split x y).length ≤ sizeLine)
    (h : ∀ (its : List Value) (tk : Nat), Vals ((Txt.split x y).map V.str) its → Q (.ref s.heap.objs.size) { s with heap := s.heap.push { cls := .type "list", data := .seq its.toArray }, toks := tk }) : wpAny (model P w) A (call (.builtin "str.split") [.str x t, .str y u]) Q E s := by
  have hy0 : (y.length == 0) = false := by rw [hy]; rfl
  have hT : s.TypeIs (.str x t) "str" := typeIs_str _ _ _
  unfold Txt.split at h hn
  by_cases c1 : (decide (x.length < y.length) || decide (Builtin.Str.strKind x < Builtin.Str.strKind y)) = true
  · simp only [if_pos c1] at h
    exact call_meets F.slot_str_split hT F.entry_str_split (F.args_str_split_2 _ _) (meets_str_split_cannot_occur x y t u c1) (h [.str x t] s.toks (.cons ⟨t, rfl⟩ .nil))
  · have c1f := Bool.eq_false_iff.mpr c1
    simp only [if_neg c1] at h hn
    by_cases c2 : (Builtin.Str.occurrences x y 0 x.length (x.length + 1)).isEmpty = true
    · simp only [if_pos c2] at h
      exact call_meets F.slot_str_split hT F.entry_str_split (F.args_str_split_2 _ _) (meets_str_split_not_found x y t u c1f hy0 c2) (h [.str x t] s.toks (.cons ⟨t, rfl⟩ .nil))
    · simp only [if_neg c2] at h hn
      exact call_meets F.slot_str_split hT F.entry_str_split (F.args_str_split_2 _ _) (meets_str_split_sep x y t u c1f hy0 (Bool.eq_false_iff.mpr c2) hx hn) (h _ _ (vals_strs _ _))
theorem isL_strs {K : PySem.W.Frag} {G : Hp} : ∀ {l : List Str}, (l.all fun p => decide (p.length ≤ 1000000) && PyData.strOk p) = true → IsL K G (l.map D.str) (l.map V.str)
  | [], _ => rfl
  | x :: l, h => by
    rw [List.all_cons, Bool.and_eq_true, Bool.and_eq_true, decide_eq_true_eq] at h
    exact ⟨.str x, l.map V.str, rfl, ⟨rfl, Nat.le_trans h.1.1 (Nat.le_of_lt million), h.1.2⟩, isL_strs h.2⟩
noncomputable def methO (g : Str → List D → Rs (List D)) (fo : FE) (fr : FA) : FA := fun δ => fo δ >>= fun d => match d with
  | .str z => fr δ >>= g z
  | _ => .bad
theorem q_split (ho : PE X o (tE X B G₀ fo)) (ha : PA X [e] (tAs X B G₀ fr))
    (hbase : attributeBase o "split" X.env (eval o X.env) = eval o X.env := by rfl)
    (hfew : ((backTo pos (starEach [e] X.env)).all (fun x => !x.1) && (backToKw pos (keywordEach [] X.env)).all (fun x => x.1.isSome)
      && decide (([e] : List Expr).length + ([] : List Keyword).length + (if ([] : List Keyword).isEmpty then 0 else 1) < 30)) = true := by rfl)
    (hline : (apos.endLine == pos.line) = true := by rfl) (hs : starEach [e] X.env = (false, eval e X.env) :: starEach [] X.env := by rfl) (hplain : (backTo pos (starEach [] X.env)).any (·.1) = false := by rfl) :
    PE X (.Call (.Attribute o "split" apos) [e] [] pos) (tFr X B G₀ (methO splitL fo fr)) := by
  intro pins s σ H Q I ⟨G, δ, R, hw⟩
  refine wpAny_Call_method_late hbase hfew hline rfl (bindE ho I R hw fun d u v s1 H1 G1 I1 R1 r1 e1 i1 hw1 => ?_)
  cases d with
  | str z =>
    obtain ⟨rfl, hz, hok⟩ := i1
    obtain ⟨t, rfl⟩ := r1
    obtain ⟨h1, h2⟩ := tyV_is (T := "str") I1 (show RelV (.str z) (.str z t) from ⟨t, rfl⟩) rfl
    refine ⟨"str", "str.split", PySem.F.plainAttrs_str, F.slot_str_split, F.type_str_split, h1, h2, ?_⟩
    have hw1 : (fr δ >>= splitL z).wp (fun c => Xo X c σ H1 G1) fun ds => FreshL X.K H G ds Q := hw1
    have hA := bindA (pos := pos) ha I1 R1 hw1 (Post := fun us s2 => wpAny (model X.prog X.w) X.A (call (.builtin "str.split") (.str z t :: us)) (EP X pins σ Q) X.xe s2) fun ds us vs s2 H2 G2 I2 R2 r2 e2 i2 hw2 => by
      unfold splitL at hw2
      split at hw2
      · rename_i y
        split at hw2
        · rename_i hc
          obtain ⟨c1, c2, c3⟩ := hc
          obtain ⟨v, rfl, rfl, hy, hyo⟩ := isL1 i2
          obtain ⟨u, rfl, t2, rfl⟩ := vals1 r2
          have hsz : (Txt.split z y).length ≤ sizeLine := Nat.le_trans c2 (Nat.le_of_lt million)
          refine split_run c1 hz hsz fun its tk hv => ?_
          have e12 := e1.trans e2
          have hfr := I2.fresh
          refine ⟨.ref s2.heap.objs.size, _, I2.lnew (t' := tk) hv (by rw [List.length_map]; exact hsz), rfl, ?_⟩
          exact hw2 _ ((Txt.split z y).map V.str) _ G2 (e12.trans (Ext.own e2.gh hfr)) (e12.hh.free hfr) upd_same (e2.gh.free hfr) (by rw [List.length_map]; exact hsz) (isL_strs c3)
        · exact hw2.elim
      · exact hw2.elim
    rw [hs] at hA ⊢
    exact Calls.callWith_builtin (by show (false || (backTo pos (starEach [] X.env)).any (·.1)) = false; rw [hplain] <;> rfl) (Calls.evalArgs_plain hA)
  | _ => exact hw1.elim
noncomputable def asV (f : FA) : FE := fun δ => f δ >>= fun ds => .ok (.lst ds)
theorem q_asV {f : FA} (h : PE X e (tFr X B G₀ f)) : PE X e (tE X B G₀ (asV f)) := by
  refine fun pins s σ H Q I ⟨G, δ, R, hw⟩ => h pins s σ H Q I ⟨G, δ, R, ?_⟩
  unfold W asV at hw
  rw [wp_bind] at hw
  refine Rs.wp.mono hw (fun _ x => x) fun ds q a xs H' G' e1 h1 h2 h3 h4 h5 => ?_
  refine q (.ref a) H' (upd G' a (.lst xs)) ⟨e1.hh, e1.gg.trans (same_upd h3 _), fun b ob z => ?_, fun b ob z => ?_⟩ ⟨a, xs, rfl, .of upd_same, h4, h5.same (same_upd h3 _)⟩
  · by_cases hb : b = a
    · subst hb; rw [upd_same] at z; cases z; exact h2
    · rw [upd_ne hb] at z; exact e1.gh b ob z
  · by_cases hb : b = a
    · subst hb; exact .inr h1
    · rw [upd_ne hb] at z; exact e1.new b ob z
noncomputable def popTo (z : Str) (ds : List D) : Option (List D) := match ds.getLast? with
  | some (.str y) => if y = z then some ds.dropLast else none
  | _ => none
noncomputable def ifPopS (i : Nat) (z : Str) : FS := fun δ => (getO δ i).out δ fun ds => match popTo z ds with
  | some es => .nx (δ.set i (some (.own es)))
  | none => .bad
theorem isL_dropLast {K : PySem.W.Frag} {G : Hp} {ds : List D} {xs : List V} (h : IsL K G ds xs) : IsL K G ds.dropLast xs.dropLast := by
  rw [List.dropLast_eq_take, List.dropLast_eq_take, h.length]
  exact h.take _
end
noncomputable def sliceTR : D → Option Int → Option Int → Rs D
  | .tup ds, lo, hi => if HT.sIx ds.length 0 lo = 0 ∧ HT.sIx ds.length ds.length hi = ds.length then .bad else .ok (.tup (cutL ds lo hi))
  | _, _, _ => .bad
noncomputable def slTF (fe : FE) (fl fh : FP) : FE := fun δ => fe δ >>= fun d => fl δ >>= fun l => fh δ >>= fun h => sliceTR d l h
@[simp] theorem s_slTF (fe : FE) (fl fh : FP) (δ : DS) : slTF fe fl fh δ = (fe δ >>= fun d => fl δ >>= fun l => fh δ >>= fun h => sliceTR d l h) := nodef rfl
@[simp] theorem s_strS (x : Str) : strR [.str x] = .ok (.str x) := nodef rfl
@[simp] theorem s_startR (z y : Str) : startR z [.str y] = .ok (.bl (Txt.startswith z y)) := nodef rfl
@[simp] theorem s_asV (f : FA) (δ : DS) : asV f δ = (f δ >>= fun ds => .ok (.lst ds)) := nodef rfl
noncomputable def methOR (g : Str → List D → Rs (List D)) (r : Rs (List D)) : D → Rs (List D)
  | .str z => r >>= g z
  | _ => .bad
@[simp] theorem s_methO (g : Str → List D → Rs (List D)) (fo : FE) (fr : FA) (δ : DS) : methO g fo fr δ = (fo δ >>= methOR g (fr δ)) := by
  unfold methO
  cases fo δ with
  | ok d => cases d <;> rfl
  | exc c => rfl
  | bad => rfl
@[simp] theorem s_methOR (g : Str → List D → Rs (List D)) (r : Rs (List D)) (z : Str) : methOR g r (.str z) = (r >>= g z) := nodef rfl
noncomputable def popO (i : Nat) (δ : DS) : Option (List D) → Out
  | some es => .nx (δ.set i (some (.own es)))
  | none => .bad
@[simp] theorem s_ifPop (i : Nat) (z : Str) (δ : DS) : ifPopS i z δ = (getO δ i).out δ fun ds => popO i δ (popTo z ds) := by
  show (getO δ i).out δ _ = (getO δ i).out δ _
  apply congrArg
  funext ds
  cases popTo z ds <;> rfl
@[simp] theorem s_popO (i : Nat) (δ : DS) (es : List D) : popO i δ (some es) = .nx (δ.set i (some (.own es))) := nodef rfl
end M

set_option Elab.async false
set_option linter.all false
set_option maxRecDepth 100000
set_option maxHeartbeats 4000000
namespace M
open PySem PySem.Spec PyProof.Rows L2
set_option autoImplicit false

section
variable {X : Cx} {B G₀ : Hp} {pins : List (Addr × Obj)} {σ : St} {H G : Hp} {s : Shared} {δ : DS}
theorem Rel.unset (R : Rel X B G₀ σ H G δ) (i : Nat) : Rel X B G₀ (σ.set i none) H G (δ.set i none) := by
  have at_ : ∀ {j : Nat} {y : Sl}, (δ.set i none)[j]? = some (some y) → i ≠ j ∧ δ[j]? = some (some y) := fun {j y} q => by
    by_cases hj : i = j
    · subst hj
      rw [List.getElem?_set] at q
      simp only [if_true] at q
      split at q <;> cases q
    · rw [List.getElem?_set_ne hj] at q
      exact ⟨hj, q⟩
  refine ⟨R.ext, by simp [R.len], fun j d q => ?_, fun j k ds q => ?_, fun j k k1 k2 ds es a q1 q2 q3 q4 => ?_⟩
  · obtain ⟨hj, q⟩ := at_ q
    rw [List.getElem?_set_ne hj]
    exact R.val j d q
  · obtain ⟨hj, q⟩ := at_ q
    rw [List.getElem?_set_ne hj]
    exact R.own j ds q
  · obtain ⟨hj, q1⟩ := at_ q1
    obtain ⟨hk, q2⟩ := at_ q2
    rw [List.getElem?_set_ne hj] at q3
    rw [List.getElem?_set_ne hk] at q4
    exact R.apart j k ds es a q1 q2 q3 q4
theorem gone2 {e : Addr} {h' : Heap} {m : Str → Option Value} {v : Option Value} {tk i : Nat} {n : Str} (ok : X.Ok) (hN : X.N.Nodup) (hi : X.N[i]? = some n) (I : Inv (X.mrk e) pins σ H s)
    (hl : ∀ (j : Nat) (x : Str) (w : V), X.N[j]? = some x → σ[j]? = some (some w) → Vis X.env.scope x → ∃ u, RelV w u ∧ Look X.env s.heap m x u)
    (hn : h'.Ns X.env.locals fun x => if x = n then v else m x) (hs : Heap.SameBut X.env.locals s.heap h') : Inv X pins (σ.set i none) H { s with heap := h', toks := tk } := by
  have bne : ∀ b o, X.s₀.heap.get? b = some o → b ≠ X.env.locals := fun b o e => Nat.ne_of_lt (Nat.lt_of_lt_of_le (Heap.lt_size e) ok.above)
  refine ⟨ok, I.os, I.bare, ⟨fun b o e n hb hx => (hs.2 b (bne b o e)).trans (I.base.keep b o e n hb hx), fun b o e n hb hx => ?_, I.base.free, fun b o e hx => ?_, I.base.tups, I.base.frzs, I.base.tbls⟩,
    ⟨_, hn, fun j x w e1 e2 e3 => ?_⟩, fun x c q => ?_, I.free, I.freeC, fun p hp => ?_, fun b ob q => ?_, by rw [List.length_set]; exact I.len⟩
  · obtain ⟨sl, z⟩ := I.base.slot b o e n hb hx
    exact ⟨sl, (hs.2 b (bne b o e)).trans z⟩
  · obtain ⟨o', z⟩ := I.base.there b o e hx
    exact ⟨o', (hs.2 b (bne b o e)).trans z⟩
  · by_cases hj : i = j
    · subst hj
      rw [List.getElem?_set] at e2
      simp only [if_true] at e2
      split at e2 <;> cases e2
    · rw [List.getElem?_set_ne hj] at e2
      obtain ⟨u, r, q⟩ := hl j x w e1 e2 e3
      refine ⟨u, r, ?_⟩
      have hxn : x ≠ n := fun z => by
        subst z
        exact hj ((List.getElem?_inj (List.getElem?_eq_some_iff.mp hi).1 hN).mp (hi.trans e1.symm))
      rcases q with ⟨a1, a2⟩ | ⟨a1, c, a2, a3⟩
      · exact .inl ⟨a1, by simpa [hxn] using a2⟩
      · exact .inr ⟨a1, c, a2, a3.sameBut hs (I.cne x c a2)⟩
  · obtain ⟨w, hv⟩ := I.cell x c q
    exact ⟨w, hv.sameBut hs (I.cne x c q)⟩
  · obtain ⟨z1, z2, z3, z4⟩ := I.pin p hp
    exact ⟨(hs.2 _ z3).trans z1, z2, z3, z4⟩
  · refine (I.hok b ob q).stay (fun c w' hc z => (hs.2 c ?_).trans z) (fun _ z => z) fun _ _ z => z
    rintro rfl
    have hfree : H X.env.locals = none := I.free
    rcases hc with rfl | hc
    · rw [hfree] at q; cases q
    · rw [hfree] at hc; cases hc
end
noncomputable def endT (i : Nat) : Out → Out
  | .rt d => .rt d
  | .nx δ => .nx (δ.set i none)
  | _ => .bad
noncomputable def tryO2 (cs : List Str) (i : Nat) (F2 : FS) : Out → Out
  | .exc c δ => if c ∈ cs then endT i (F2 (δ.set i (some (.v (.exn c))))) else .bad
  | o => o
noncomputable def tryS2 (cs : List Str) (i : Nat) (F1 F2 : FS) : FS := fun δ => tryO2 cs i F2 (F1 δ)
section
variable {X : Cx} {B G₀ : Hp} {F1 F2 : FS} {cls en : Str} {np hpos pos : Pos} {body suite : List Stmt} {b₀ : Stmt} {cs : List Str}
theorem q_try2 (i : Nat) (hN : X.N.Nodup) (hcs : ∀ c ∈ cs, ExM X.K X.mg c cls) (hb : ∀ pn E, PSs (X.tr pn E) body (tS (X.tr pn E) B G₀ F1)) (hsu : ∀ e, PSs (X.mrk e) (b₀ :: suite) (tS (X.mrk e) B G₀ F2))
    (hst : X.stack = X.env :: X.outer := by rfl) (hf : X.env.frame = some X.env.locals := by rfl) (hg : Gl X cls := by rfl) (hdb : (cls == ("__debug__" : Str)) = false := by decide) (hi : X.N[i]? = some en := by rfl) (hl : X.env.scope.names.lookup en = some .local := by rfl) :
    PS X (.Try body [.ExceptHandler (some (.Name cls np)) (some en) (b₀ :: suite) hpos] [] [] pos) (tS X B G₀ (tryS2 cs i F1 F2)) := by
  intro pins s σ H D' I ⟨G, δ, R, hw⟩
  have hw : WS X B G₀ D' (tryO2 cs i F2 (F1 δ)) := hw
  refine wpAny_Try_except ?_
  have plain : ∀ o, F1 δ = o → WS (X.tr (X.pn ++ pins) fun _ _ => False) B G₀ D' o → wpAny (model X.prog X.w) X.A (execs body X.env) (fun f s₁ => match f with | .next => wpAny (model X.prog X.w) X.A (execs [] X.env) (SP X pins D') X.xe s₁ | f => SP X pins D' f s₁)
      (fun e s₁ => wpAny (model X.prog X.w) X.A (noteFrame e X.env) (fun _ s₂ => wpAny (model X.prog X.w) X.A (setFlight e none) (fun _ s₃ => wpAny (model X.prog X.w) X.A (handleBy e X.env [.ExceptHandler (some (.Name cls np)) (some en) (b₀ :: suite) hpos]) (SP X pins D') X.xe s₃) X.xe s₂) X.xe s₁) s := by
    intro o ho hwo
    refine wpAny_mono (hb (X.pn ++ pins) (fun _ _ => False) [] s σ H D' (I.tr _) ⟨G, δ, R.cx, by rw [ho]; exact hwo⟩) (fun f s1 hsp => ?_) fun _ _ z => False.elim z
    have z := hsp.untr I.ok
    cases f with
    | next => exact wpAny_execs_nil z
    | brk => exact z
    | cont => exact z
    | ret u => exact z
  cases q : F1 δ with
  | nx δ' => rw [q] at hw; exact plain _ q fun σ H G R' => hw σ H G R'.cx
  | rt d => rw [q] at hw; exact plain _ q hw
  | bk δ' => rw [q] at hw; exact plain _ q fun σ H G R' => hw σ H G R'.cx
  | ct δ' => rw [q] at hw; exact plain _ q fun σ H G R' => hw σ H G R'.cx
  | bad => rw [q] at hw; exact hw.elim
  | exc c δ' =>
    rw [q] at hw
    have hw : WS X B G₀ D' (if c ∈ cs then endT i (F2 (δ'.set i (some (.v (.exn c))))) else .bad) := hw
    split at hw
    rotate_left
    · exact hw.elim
    rename_i hcc
    have hbody := hb (X.pn ++ pins) (fun ev s'' => ∃ σ H G s', Rel X B G₀ σ H G δ' ∧ Inv X pins σ H s' ∧ IsX X c H G s' ev s'') [] s σ H { nx := fun _ _ => False, rt := fun _ _ => False } (I.tr _) ⟨G, δ, R.cx, by
      rw [q]
      exact fun pins' σ' s' H' G' ev R' I' s'' x => ⟨σ', H', G', s', R'.cx, I'.untr I.ok, x⟩⟩
    refine wpAny_mono hbody (fun f s1 hsp => ?_) fun ev s1 hev => ?_
    · exfalso
      cases f with
      | next => obtain ⟨_, _, _, z⟩ := hsp; exact z
      | brk => obtain ⟨_, _, _, z⟩ := hsp; exact z
      | cont => obtain ⟨_, _, _, z⟩ := hsp; exact z
      | ret u => obtain ⟨_, _, _, _, _, z⟩ := hsp; exact z
    obtain ⟨σ1, H1, G1, s0, R1, I1, e, C, Bk, H', G', rfl, hm, hx, fl, ho, hbr, hok, hnf, hu⟩ := hev
    obtain ⟨hp1, g1, d1, t1, o1⟩ := s1
    have ho : o1 = s0.os := ho
    subst ho
    have hfr : X.A.frames = some (X.env :: X.outer) := by rw [← hst]; exact I.ok.frames
    have fl' : Fl Bk (X.env :: X.outer) e C hp1 := by rw [← hst]; exact fl
    have hmem : ∀ b ∈ frs X.stack, b ∈ frs (X.env :: X.outer) := by rw [hst]; exact fun _ z => z
    refine fl_note hfr hf fl' fun h' t hh up => ?_
    have u1 := hu.slots fl'.frames.1 hmem up
    refine wpAny_landsW (s := ⟨h', g1, d1, t1, s0.os⟩) hh fun h2 hfl up2 => ?_
    have u2 := u1.slots hh.2.2.1 hmem up2
    obtain ⟨C', D0, m1, ns1, m2, ex⟩ := hcs c hcc
    rw [hm] at m1; cases m1
    obtain ⟨hne, I2⟩ := caught (h := h2) (g := g1) (d := d1) (tk := t1) I1 (by rw [hst]; exact hfl) hbr hok u2
    refine wpAny_handleBy_cons (codeAny_handlers_test (ld_glob (I2.mrk e) hg m2 ?_ hdb)) (by intro z; cases z)
    obtain ⟨oe, he, hcl⟩ := hfl.there
    have LT : PySem.W.Looks (model X.prog X.w) h2 (typeOf (.ref e)) (.ref C) := hcl ▸ (PySem.W.Looks.ld he).andThen .now
    refine (PySem.W.exm_one I2.kIn LT ex).here ?_
    refine codeAny_handlers_suite_as ?_
    refine lands_againW (s := ⟨h2, g1, d1, t1, s0.os⟩) hfl fun h3 hfl3 up3 => ?_
    have u3 := u2.slots hfl.2.2.1 hmem up3
    obtain ⟨_, I3⟩ := caught (h := h3) (g := g1) (d := d1) (tk := t1) I1 (by rw [hst]; exact hfl3) hbr hok u3
    refine store_ok (X := X.mrk e) (v := .ref e) (I3.mrk e) hN hi (.inl hl) rfl (fun s4 I4 => ?_) (.inr hl)
    have R4 : Rel (X.mrk e) B G₀ (σ1.set i (some (.ref e))) (upd H' e (.ext (exnP e C))) (upd G' e (.ext (exnP e C))) (δ'.set i (some (.v (.exn c)))) :=
      ((R1.mono (hx.trans (Ext.laid hx.gh hne))).cx).set i ⟨e, _, C, rfl, upd_same, fun h z => z, ns1⟩
    refine wpAny_mono (hsu e pins s4 _ _ { nx := fun σ' H' => D'.nx (σ'.set i none) H', rt := D'.rt } I4 ⟨_, _, R4, ?_⟩) (fun f s5 hsp => ?_) fun _ _ z => False.elim z
    · cases q2 : F2 (δ'.set i (some (.v (.exn c)))) with
      | rt d => rw [q2] at hw; exact hw
      | nx δ'' => rw [q2] at hw; exact fun σ H G R' => hw _ H G (R'.cx.unset i)
      | _ => rw [q2] at hw; exact hw.elim
    · have hk : (X.env.scope.kind == .class || (X.env.scope.kind == .module && X.env.locals != X.env.globals)) = false := by rw [I.ok.kind]; rfl
      cases f with
      | next =>
        obtain ⟨σ5, H5, I5, q5⟩ := hsp
        obtain ⟨m, hns, hlo⟩ := id I5.loc
        exact wpAny_nameGoes_keeps (m := m) hl hns hk fun h6 v6 hn6 sb => ⟨_, H5, gone2 I.ok hN hi I5 hlo hn6 sb, q5⟩
      | brk => obtain ⟨_, _, _, z⟩ := hsp; exact z.elim
      | cont => obtain ⟨_, _, _, z⟩ := hsp; exact z.elim
      | ret u =>
        obtain ⟨v, σ5, H5, I5, r5, q5⟩ := hsp
        obtain ⟨m, hns, _⟩ := id I5.loc
        exact wpAny_nameGoes (m := m) hl hns hk fun h6 m6 hn6 sb => ⟨v, _, H5, gone I.ok I5 hn6 sb, r5, q5⟩
end
@[simp] theorem s_tryS2 (cs : List Str) (i : Nat) (F1 F2 : FS) (δ : DS) : tryS2 cs i F1 F2 δ = tryO2 cs i F2 (F1 δ) := nodef rfl
@[simp] theorem s_tryO2rt (cs : List Str) (i : Nat) (F2 : FS) (d : D) : tryO2 cs i F2 (.rt d) = .rt d := nodef rfl
@[simp] theorem s_tryO2nx (cs : List Str) (i : Nat) (F2 : FS) (δ : DS) : tryO2 cs i F2 (.nx δ) = .nx δ := nodef rfl
@[simp] theorem s_tryO2exc (cs : List Str) (i : Nat) (F2 : FS) (c : Str) (δ : DS) : tryO2 cs i F2 (.exc c δ) = if c ∈ cs then endT i (F2 (δ.set i (some (.v (.exn c))))) else .bad := nodef rfl
@[simp] theorem s_endTrt (i : Nat) (d : D) : endT i (.rt d) = .rt d := nodef rfl
@[simp] theorem s_endTnx (i : Nat) (δ : DS) : endT i (.nx δ) = .nx (δ.set i none) := nodef rfl
end M

set_option Elab.async false
set_option linter.all false
set_option maxRecDepth 100000
set_option maxHeartbeats 4000000
namespace M
open PySem PySem.Spec PyProof.Rows L2
set_option autoImplicit false
open PySem.Builtin.Getset_descriptor PySem.Builtin.ObjectAttr

structure ExnK (K : PySem.W.Frag) (C : Addr) : Prop where
  ob : PySem.W.mroIn K C (.type "object") = some true
  be : PySem.W.mroIn K C (.type "BaseException") = some true
  ga : PySem.W.findIn K (.ref C) "__getattribute__" = some (some (.builtin "BaseException.__getattribute__"))
  gn : PySem.W.findIn K (.ref C) "__getattr__" = some none
  cl : PySem.W.findIn K (.ref C) "__class__" = some (some (.builtin "object.__class__"))
  ty : (PySem.W.clsIn K C).isSome = true
section
variable {prog : Program} {w : World} {A : Around} {E : Value → Shared → Prop} {K : PySem.W.Frag} {h : Heap} {g : Array GenState} {d : Drawn} {t : Nat} {os : OsState} {a C : Addr}
theorem exn_get {R : Result → Shared → Prop} {tp : Value} (X : K.In h) (k : ExnK K C) (L0 : PySem.W.Looks (model prog w) h (typeOf (.ref a)) (.ref C)) (hq : R (.ok (.ret (.ref C))) ⟨h, g, d, t, os⟩) :
    codeAny (model prog w) A (.call (.builtin "getset_descriptor.__get__") ⟨[.builtin "object.__class__", .ref a, tp], []⟩) R ⟨h, g, d, t, os⟩ := by
  have L1 := PySem.W.looks_mroIn (M := model prog w) X k.ob
  refine codeAny_call_builtin PySem.W.KF.slot_gs.plain PySem.W.KF.entry_gs (PySem.W.KF.slot_gs.check _ _ _ _ _ _ _ _ PySem.W.KF.type_class (PySem.W.KF.args_gs _ _ _) ?_)
  unfold Builtin.«getset_descriptor.__get__» descrGet; rw [PySem.W.dga_obj]
  refine wpAny_bind (wpAny_pure ?_)
  unfold descrGetter descrCheckInstance descrNameAndClass isInstance; simp only [PySem.W.KF.owner_class]
  repeat lk
  refine ⟨Code.quiet_builtin _ (by decide +kernel), codeAny_builtin PySem.W.KF.entry_class ?_⟩
  unfold Builtin.«object.__class__» shownTypeOf; repeat lk
  exact hq
theorem exn_entry {tk : Tok} {Q : Fin → Shared → Prop} (X : K.In h) (k : ExnK K C) (L0 : PySem.W.Looks (model prog w) h (typeOf (.ref a)) (.ref C)) (hq : Q (.done (.ret (.ref C))) ⟨h, g, d, t, os⟩) :
    wpAny (model prog w) A (Builtin.«object.__getattribute__» ⟨[.ref a, .str "__class__" tk], []⟩) Q E ⟨h, g, d, t, os⟩ := by
  have L1 := PySem.W.looks_findIn (M := model prog w) X k.cl
  have hT5 : (⟨h, g, d, t, os⟩ : Shared).TypeIs (.builtin "object.__class__") "getset_descriptor" := F.typeOf_object_class
  have f5 := F.typeOf_object_class
  have f6 := F.slot_gs_get.lookup
  have f7 := F.slot_gs_set.lookup
  repeat (any_goals (first | assumption | (with_reducible refine L0.at ?_) | (with_reducible refine L1.at ?_) | wp_step))
  refine exn_get X k L0 ?_
  repeat (any_goals (first | assumption | wp_step))
theorem exn_check {nv : Value} {Q : Unit → Shared → Prop} (X : K.In h) (k : ExnK K C) (L0 : PySem.W.Looks (model prog w) h (typeOf (.ref a)) (.ref C)) (hq : Q () ⟨h, g, d, t, os⟩) : wpAny (model prog w) A (checkBuiltinCall "BaseException.__getattribute__" ⟨[.ref a, nv], []⟩) Q E ⟨h, g, d, t, os⟩ := by
  have hk : builtinKind "BaseException.__getattribute__" = some .slot := by decide +kernel
  have hp : splitId "BaseException.__getattribute__" = some ("BaseException", "__getattribute__") := by decide +kernel
  have ha := F.args_bexc_ga (.ref a) nv
  have L1 := PySem.W.looks_mroIn (M := model prog w) X k.be
  simp only [checkBuiltinCall, hk, hp]
  refine wpAny_bind ?_
  unfold isInstance
  repeat (first | (with_reducible refine L0.at ?_) | (with_reducible refine L1.at ?_) | wp_step)
  exact hq
theorem exn_call {tk : Tok} {R : Result → Shared → Prop} (X : K.In h) (k : ExnK K C) (L0 : PySem.W.Looks (model prog w) h (typeOf (.ref a)) (.ref C)) (hq : R (.ok (.ret (.ref C))) ⟨h, g, d, t, os⟩) :
    codeAny (model prog w) A (.call (.builtin "BaseException.__getattribute__") ⟨[.ref a, .str "__class__" tk], []⟩) R ⟨h, g, d, t, os⟩ :=
  codeAny_call_builtin PySem.F.attrBase_ValueError.ga.plain F.entry_bexc_ga (exn_check X k L0 (exn_entry X k L0 hq))
theorem exn_by {tk : Tok} {Q : Value → Shared → Prop} (X : K.In h) (k : ExnK K C) (L0 : PySem.W.Looks (model prog w) h (typeOf (.ref a)) (.ref C)) (hq : Q (.ref C) ⟨h, g, d, t, os⟩) : wpAny (model prog w) A (getAttrBy (.ref a) (.str "__class__" tk) false) Q E ⟨h, g, d, t, os⟩ := by
  have f3 := PySem.F.attrBase_ValueError.ga.bind (.ref a)
  have LG := PySem.W.looks_findIn (M := model prog w) X k.ga
  have LN := PySem.W.looks_findIn (M := model prog w) X k.gn
  have hx2 : (Value.builtin "BaseException.__getattribute__" == Value.builtin "object.__getattribute__") = false := by decide +kernel
  have hx1 : (onTheHeap (Value.ref C) && Value.builtin "BaseException.__getattribute__" == Value.builtin "object.__getattribute__") = false := by rw [hx2]; rfl
  repeat (any_goals (first | assumption | (with_reducible refine L0.at ?_) | (with_reducible refine LG.at ?_) | (with_reducible refine LN.at ?_) | wp_step))
  refine exn_call X k L0 ?_
  repeat (any_goals (first | assumption | wp_step))
theorem exn_attr {Q : Option Value → Shared → Prop} (X : K.In h) (k : ExnK K C) (L0 : PySem.W.Looks (model prog w) h (typeOf (.ref a)) (.ref C)) (hq : Q (some (.ref C)) ⟨h, g, d, t + 1, os⟩) : wpAny (model prog w) A (getAttr? (.ref a) "__class__") Q E ⟨h, g, d, t, os⟩ := by
  unfold getAttr? getAttrBy?
  repeat (any_goals (first | assumption | with_reducible apply exn_by X k L0 | wp_step))
theorem exn_kit {e C : Addr} (k : ExnK K C) : PySem.W.KitX K (.ref e) (.ref C) (fun h => ∃ o, h.get? e = some o ∧ o.cls = .ref C) where
  ty := fun M h _ ⟨o, z1, z2⟩ => z2 ▸ (PySem.W.Looks.ld z1).andThen .now
  it := fun _ _ X _ => by
    obtain ⟨cd, hc⟩ := Option.isSome_iff_exists.mp k.ty
    unfold PySem.W.clsIn at hc
    split at hc
    · rename_i ho
      intro A' Q' E' s' kp q; unfold isType loadHead
      exact wpAny_bind (wpAny_loadPart (kp _ _ (X _ _ ho)) (wpAny_pure q))
    · cases hc
  ne := fun h tp dd its n sl X htp => Bool.eq_false_iff.mpr fun q => by
    obtain ⟨cd, hc⟩ := Option.isSome_iff_exists.mp k.ty
    have e : C = tp := Value.ref.inj (beq_iff_eq.mp q)
    subst e
    unfold PySem.W.clsIn at hc
    split at hc
    · rename_i ho
      have z := (X _ _ ho).symm.trans htp; cases z
    · cases hc
  ca := fun {prog w A E Q s} X ⟨o, z1, z2⟩ q => by
    obtain ⟨h0, g0, d0, t0, os0⟩ := s
    exact exn_attr X k (z2 ▸ (PySem.W.Looks.ld z1).andThen .now) q
end
noncomputable def IsyK (K : PySem.W.Frag) (c : Str) (v : Value) (b : Bool) : Prop := ∃ C, PySem.W.nsIn K mainGlobals c = some (some (.ref C)) ∧ ExnK K C ∧ PySem.W.kitOne K (.ref C) v = some b
noncomputable def isyR (cs : List Str) (b : Bool) : D → Rs D
  | .exn c => if c ∈ cs then .ok (.bl b) else .bad
  | _ => .bad
noncomputable def isyF (cs : List Str) (b : Bool) (fe : FE) : FE := fun δ => fe δ >>= isyR cs b
section
variable {X : Cx} {B G₀ : Hp} {e : Expr} {fe : FE} {cs : List Str} {p pos : Pos} {b : Bool}
theorem cr_isy {cV : V} {cv : Value} (hr : ∀ u, RelV cV u → u = cv) (hT : ∀ c ∈ cs, IsyK X.K c cv b) : CallR X (.builtin "isinstance") (fun xs H Q => ∃ x c, xs = [x, cV] ∧ Is X.K H (.exn c) x ∧ c ∈ cs ∧ Q (.bl b) H) := by
  intro pins s σ H xs us Q I r h
  obtain ⟨x, c, rfl, ⟨a, φ, C, rfl, h1, h2, h3⟩, hc, q⟩ := h
  obtain ⟨u, w, rfl, r1, r2⟩ := vals2 r
  cases (show u = .ref a from r1)
  cases hr w r2
  obtain ⟨C', n1, n2, n3⟩ := hT c hc
  rw [h3] at n1; cases n1
  have hφ : φ s.heap := (I.hok a _ h1).1
  exact PySem.W.kia_one (exn_kit n2) I.kIn (h2 _ hφ) n3 (fun z => nomatch z) fun tk => ⟨.bl _, H, I.tok tk, rfl, q⟩
theorem q_isy {y : Str} {p2 : Pos} (hT : ∃ D, X.mg y = some (.ref D) ∧ ∀ c ∈ cs, IsyK X.K c (.ref D) b) (hm : X.mg "isinstance" = none) (ha : PE X e (tE X B G₀ fe)) (hg : Gl X "isinstance" := by rfl) (hg2 : Gl X y := by rfl)
    (hd2 : (y == ("__debug__" : Str)) = false := by decide) (hs1 : starEach [e, .Name y p2] X.env = (false, eval e X.env) :: starEach [.Name y p2] X.env := by rfl) :
    PE X (.Call (.Name "isinstance" p) [e, .Name y p2] [] pos) (tE X B G₀ (isyF cs b fe)) := by
  obtain ⟨D0, m2, hT⟩ := hT
  refine pd_of (pe_callB (cr_isy (cV := .ref D0) (cv := .ref D0) (fun u r => r) hT) hg hm PyProof.Rows.boot_isinstance (pa_cons ha (pa_cons (pe_glob (v := .ref D0) hg2 m2 rfl hd2) pa_nil) hs1) (by decide) (by decide) hs1) fun σ H G δ Q R hw => ?_
  unfold isyF W at hw
  rw [wp_bind] at hw
  refine ⟨G, δ, R, Rs.wp.mono hw (fun _ x => x) fun d q v H1 G1 e1 i1 => ?_⟩
  cases d with
  | exn c =>
    have q : (if c ∈ cs then Rs.ok (D.bl b) else .bad).wp (fun c => Xo X c σ H G) fun d => ∀ v H' G', Ext H G H' G' → Is X.K G' d v → Q v H' := q
    split at q
    · rename_i hc
      exact ⟨v, c, rfl, i1.same e1.gh, hc, q _ H1 G1 e1 rfl⟩
    · exact q.elim
  | _ => exact q.elim
end
@[simp] theorem s_isyR (cs : List Str) (b : Bool) (c : Str) : isyR cs b (.exn c) = if c ∈ cs then .ok (.bl b) else .bad := nodef rfl
@[simp] theorem s_isyF (cs : List Str) (b : Bool) (fe : FE) (δ : DS) : isyF cs b fe δ = (fe δ >>= isyR cs b) := nodef rfl
end M

set_option Elab.async false
set_option linter.all false
set_option maxRecDepth 100000
set_option maxHeartbeats 4000000
namespace M
open PySem PySem.Spec PyProof.Rows L2
set_option autoImplicit false

theorem q_compSetX {X : Cx} {B G₀ : Hp} {elt iter : Expr} {x : Str} {px : Pos} {scope sc : Scope} {N : List Str} {pos : Pos} {f : FA} {fe : FE} (i : Nat) {y : Str} {py spos : Pos} (hNd : X.N.Nodup) (fr : List (Str × Nat)) (hok : compOk sc scope N x fr = true) (hsc : X.env.scope = sc) (hN : X.N = N) (hcalm : X.calm = true)
    (hi : PI X (.Name x px) iter (tI X B G₀ f)) (he : ∀ C s₀ H₀ fp E B' G', PE ((compCx X scope x fr C s₀ H₀ fp).wish E) elt (tE ((compCx X scope x fr C s₀ H₀ fp).wish E) B' G' fe))
    (hsw : swapsWith (.ListComp elt [⟨.Name x px, iter, [], 0⟩] scope pos) (some (.Name y py)) spos.line X.env = pure true := by rfl)
    (hs : ∀ x, foldedSetIterable iter X.env x = pure x := by intro _; rfl) (hy : X.N[i]? = some y := by rfl) (hx : Loc X.env.scope y := by first | exact Or.inl rfl | exact Or.inr rfl)
    (hf : X.fn y = true ∨ X.env.scope.names.lookup y = some .local := by first | exact .inl rfl | exact .inr rfl | assumption) (hst : X.stack = X.env :: X.outer := by rfl) (hfm : X.env.frame = some X.env.locals := by rfl) :
    PS X (.Assign [.Name y py] (.ListComp elt [⟨.Name x px, iter, [], 0⟩] scope pos) spos) (tS X B G₀ (setS i (compFX fr f fe))) := by
  intro pins s σ H D' I ⟨G, δ, R, hw⟩
  have plain := pds_compSet (pos := pos) (spos := spos) (py := py) (gt := fun _ => .ok true) i hNd fr hok hsc hN hcalm hi .nil (fun C s₀ H₀ fp B' G' => he C s₀ H₀ fp (fun _ _ => False) B' G') hsw hs hy hx hf pins s σ H D' I
  have hw : WS X B G₀ D' ((f δ >>= fun ds => bigX ds (compX (fun d => fe (innerD δ fr (some (.v d)))) ds)).out δ fun d => .nx (δ.set i (some (.v d)))) := hw
  cases hd : f δ with
  | exc c => exact plain ⟨G, δ, R, by dsimp only; rw [hd] at hw ⊢; exact hw⟩
  | bad => rw [hd] at hw; exact hw.elim
  | ok ds =>
    rw [hd, ok_bind] at hw
    unfold bigX at hw
    by_cases hl : ds.length ≤ 1000000
    · rw [if_pos hl] at hw
      cases hc : compX (fun d => fe (innerD δ fr (some (.v d)))) ds with
      | bad => rw [hc] at hw; exact hw.elim
      | ok r =>
        refine plain ⟨G, δ, R, ?_⟩
        rw [hc, ok_bind] at hw
        dsimp only
        rw [hd, ok_bind]
        unfold bigR
        rw [if_pos hl, compX_ok hc]
        exact hw
      | exc c =>
        rw [hc] at hw
        rw [exec_Assign_Name_used y py _ spos hsw]
        refine wpAny_bind (wpAny_standAt (wpAny_bind ?_))
        show wpAny (model X.prog X.w) X.A (comprehension (.ListComp elt [⟨.Name x px, iter, [], 0⟩] scope pos) scope X.env (firstIterPos [⟨.Name x px, iter, [], 0⟩] pos) (newList []) (firstAsync [⟨.Name x px, iter, [], 0⟩]) (firstIter [⟨.Name x px, iter, [], 0⟩] X.env) (some (assign (.Name y py) X.env)) >>= fun _ => pure ()) _ X.xe s
        refine wpAny_bind ?_
        exact comp_exc (use := some (assign (.Name y py) X.env)) fr hok hsc hN hcalm hst hfm hi he hs I R hd hl hc fun pins s' H' G' ev e I x => hw pins σ s' H' G' ev (R.mono e) I x
    · rw [if_neg hl] at hw; exact hw.elim
noncomputable def joinSR (z : Str) : List D → Rs D
  | [.lst ds] => match strsOf ds with
    | some ys => if (ys.map (·.length)).sum + ys.length * z.length ≤ 1000000 ∧ (Str.join z ys).length ≤ 1000000 ∧ PyData.strOk (Str.join z ys) = true then .ok (.str (Str.join z ys)) else .bad
    | none => .bad
  | _ => .bad
theorem mts_joinS {X : Cx} : MtS X "str.join" joinSR := by
  intro pins s σ H G Q z t ds vs us I gh r hz hok i hw
  unfold joinSR at hw
  split at hw
  · rename_i ds2
    split at hw
    · rename_i ys hs
      obtain ⟨⟨hl1, hl2, hl3⟩, hw2⟩ := wIf (r := .ok (.str (Str.join z ys))) (c := (ys.map (·.length)).sum + ys.length * z.length ≤ 1000000 ∧ (Str.join z ys).length ≤ 1000000 ∧ PyData.strOk (Str.join z ys) = true) hw
      obtain ⟨v, rfl, a, xs, rfl, h1, h2, h3⟩ := isL1 i
      obtain ⟨u, rfl, ru⟩ := vals1 r
      cases ru
      obtain ⟨its, rv, pl, hzz⟩ := I.list (gh.seq h1)
      obtain ⟨hA, hB⟩ := strs_get hs h3 rv
      have hm := million
      refine join_list (ys := ys) pl.isList (by simpa using hA) (by omega) fun t' k => ?_
      have e : Txt.join z ys = Str.join z ys := by
        show Builtin.Str.glued _ _ = _
        rw [StrLaws.glued_eq_join]
      rw [e]
      exact ⟨.str (Str.join z ys), H, I.tok k, ⟨t', rfl⟩, wOk hw2 gh ⟨rfl, by omega, hl3⟩⟩
    · exact hw.elim
  · exact hw.elim
noncomputable def ninR : D → D → Rs D
  | .str y, .str x => .ok (.bl (!(inSB y x)))
  | _, _ => .bad
theorem od_nin {X : Cx} : OpD X (compareOp .NotIn) ninR := opD_of op_notin_str fun σ H G Q d1 d2 x y gh i1 i2 hw => by
  cases d1 with
  | str a =>
    cases d2 with
    | str b =>
      obtain ⟨rfl, _⟩ := i1
      obtain ⟨rfl, _⟩ := i2
      exact ⟨a, b, rfl, rfl, wOk hw gh rfl⟩
    | _ => exact hw.elim
  | _ => exact hw.elim
noncomputable def popT (z : Str) (ds : List D) : Option (Bool × List D) := match ds.getLast? with
  | some (.str y) => some (!(y == z), ds.dropLast)
  | _ => none
noncomputable def ifPopX (i : Nat) (z : Str) (F : FS) : FS := fun δ => (getO δ i).out δ fun ds => match popT z ds with
  | some (b, es) => if b = true then F (δ.set i (some (.own es))) else .nx (δ.set i (some (.own es)))
  | none => .bad
theorem q_ifPopX {X : Cx} {B G₀ : Hp} {F : FS} (i : Nat) {x z : Str} {j} {xp kp cp pos pos' apos : Pos} {body : List Stmt} (hu : X.A.units + 64 < cLine) (hb : PSs X body (tS X B G₀ F)) (hN : X.N[i]? = some x := by rfl) (hv : Vis X.env.scope x := by first | exact Or.inl rfl | exact Or.inr (Or.inl rfl) | exact Or.inr (Or.inr rfl)) (hdb : (x == ("__debug__" : Str)) = false := by decide) (hcd : (x == ("__classdict__" : Str)) = false := by decide)
    (hbase : attributeBase (.Name x xp) "pop" X.env (eval (.Name x xp) X.env) = eval (.Name x xp) X.env := by rfl) (hline : (apos.endLine == pos.line) = true := by rfl)
    (hz : z.length ≤ sizeLine := by decide +kernel) (ho : PyData.strOk z = true := by decide +kernel) :
    PS X (.If (.Compare (.Call (.Attribute (.Name x xp) "pop" apos) [] [] pos) [.NotEq] [.Constant (.str z) j kp] cp) body [] pos') (tS X B G₀ (ifPopX i z F)) := by
  intro pins s σ H D' I ⟨G, δ, R, hw⟩
  have hw : WS X B G₀ D' ((getO δ i).out δ fun ds => match popT z ds with | some (b, es) => if b = true then F (δ.set i (some (.own es))) else .nx (δ.set i (some (.own es))) | none => .bad) := hw
  cases q : getO δ i with
  | exc c => exact (getO_ne q).elim
  | bad => rw [q] at hw; exact hw.elim
  | ok ds =>
    rw [q] at hw
    have hw : WS X B G₀ D' (match popT z ds with | some (b, es) => if b = true then F (δ.set i (some (.own es))) else .nx (δ.set i (some (.own es))) | none => .bad) := hw
    have hi := getO_ok q
    obtain ⟨a, xs, hσ, hH, hG, hB, hzz, hI⟩ := R.own i ds hi
    cases hp : popT z ds with
    | none => rw [hp] at hw; exact hw.elim
    | some r =>
      obtain ⟨b, es⟩ := r
      rw [hp] at hw
      dsimp only at hw
      obtain ⟨y, hl, rfl, rfl⟩ : ∃ y, ds.getLast? = some (.str y) ∧ b = !(y == z) ∧ es = ds.dropLast := by
        unfold popT at hp
        split at hp
        · rename_i y e
          cases hp; exact ⟨y, e, rfl, rfl⟩
        · cases hp
      have hl' : ds[ds.length - 1]? = some (.str y) := by rw [← List.getLast?_eq_getElem?]; exact hl
      obtain ⟨v, hv1, hv2⟩ := hI.get hl'
      have hxl := hI.length
      rw [← hxl] at hv1
      obtain ⟨rfl, hy1, hy2⟩ := hv2
      have R1 : Rel X B G₀ σ (upd H a (.lst xs.dropLast)) G (δ.set i (some (.own ds.dropLast))) := R.write hi hσ (by rw [List.length_dropLast]; have : xs.length ≤ sizeLine := hzz; omega) (isL_dropLast hI)
      refine wpAny_If (Q := _) ?_
      refine wpAny_isTrue_Compare1 (thn (pe_bm0 PySem.F.plainAttrs_list PySem.F.slot_list_pop PySem.F.type_list_pop mt_pop (pe_var hN hv hdb hcd) hbase hline pins s σ H (fun v H' => v = .str y ∧ H' = upd H a (.lst xs.dropLast)) I
        ⟨.ref a, hσ, .inl ⟨rfl, xs, SqL.of hH⟩, a, xs, .str y, rfl, rfl, hH, hv1, rfl, rfl⟩) fun u1 s1 ⟨v1, H1, I1, r1, hv, hH1⟩ => ?_) (nobehind _ (by decide) (by decide))
      subst hv; subst hH1
      refine thn (pe_str pins s1 σ _ (fun v H' => v = .str z ∧ H' = upd H a (.lst xs.dropLast)) I1 ⟨rfl, rfl⟩) fun u2 s2 ⟨v2, H2, I2, r2, hv, hH2⟩ => ?_
      subst hv; subst hH2
      have hne2 : neR (.str y) (.str z) = .ok (.bl (!(y == z))) := by rw [ne_l (show dep (.str y) ≤ 64 by simp)]; rfl
      refine thn (od_ne hu pins s2 σ _ G (fun v H' => v = .bl (!(y == z)) ∧ ∃ G', Ext (upd H a (.lst xs.dropLast)) G H' G') (.str y) (.str z) _ _ u1 u2 I2 R1.ext.gh r1 r2 ⟨rfl, hy1, hy2⟩ ⟨rfl, hz, ho⟩ ?_) fun u3 s3 ⟨v3, H3, I3, r3, hv, G3, e3⟩ => ?_
      · rw [hne2]
        exact fun v H' G' e i => ⟨i, G', e⟩
      subst hv
      have R3 := R1.mono e3
      refine tru_then (d := .bl (!(y == z))) (k := fun b => (.ok b : Rs Bool)) (q := fun b => b = !(y == z)) I3 R3 r3 rfl (show (Rs.ok (!(y == z)) : Rs Bool).wp _ _ from rfl) fun b s' I' hbb => ?_
      have hbb : b = !(y == z) := hbb
      subst hbb
      cases hq : (!(y == z)) with
      | false => rw [hq] at hw; exact wpAny_execs_nil ⟨σ, H3, I', hw σ H3 G3 R3⟩
      | true => rw [hq] at hw; exact hb pins s' σ H3 D' I' ⟨G3, _, R3, hw⟩
noncomputable def popB (i : Nat) (F : FS) (δ : DS) : Option (Bool × List D) → Out
  | some (b, es) => if b = true then F (δ.set i (some (.own es))) else .nx (δ.set i (some (.own es)))
  | none => .bad
@[simp] theorem s_ifPopX (i : Nat) (z : Str) (F : FS) (δ : DS) : ifPopX i z F δ = (getO δ i).out δ fun ds => popB i F δ (popT z ds) := by
  show (getO δ i).out δ _ = (getO δ i).out δ _
  apply congrArg
  funext ds
  cases popT z ds with
  | none => rfl
  | some r => rfl
@[simp] theorem s_popBt (i : Nat) (F : FS) (δ : DS) (es : List D) : popB i F δ (some (true, es)) = F (δ.set i (some (.own es))) := nodef rfl
@[simp] theorem s_popBf (i : Nat) (F : FS) (δ : DS) (es : List D) : popB i F δ (some (false, es)) = .nx (δ.set i (some (.own es))) := nodef rfl
@[simp] theorem s_ninR (y x : Str) : ninR (.str y) (.str x) = .ok (.bl (!(inSB y x))) := nodef rfl
end M

set_option linter.all false
set_option maxRecDepth 100000
namespace A
open PySem PySem.Spec PyProof.Rows L2 M
set_option autoImplicit false
noncomputable def F__law_spoilt : DS → Out :=
  (seqO (setS 2 (bin2 modR (varD 1) (bin2 addR (appF lenR (aC (varD 0) a0)) (cD (.int 1)))))
  (seqO (setS 3 (bin2 idxR (cD (.str " \n0123456789copysignab-+.")) (bin2 modR (bin2 fdivR (varD 1) (cD (.int 100))) (cD (.int 24)))))
  (seqO (setS 4 (bin2 modR (bin2 fdivR (varD 1) (cD (.int 2400))) (cD (.int 6))))
  (seqO (ifS (cmpT eqR (varD 4) (cD (.int 0))) (retS (bin2 addR (bin2 addR (slF (varD 0) noP (someP (varD 2))) (varD 3)) (slF (varD 0) (someP (varD 2)) noP))) Out.nx)
  (seqO (ifS (cmpT eqR (varD 4) (cD (.int 1))) (retS (bin2 addR (slF (varD 0) noP (someP (varD 2))) (slF (varD 0) (someP (bin2 addR (varD 2) (cD (.int 1)))) noP))) Out.nx)
  (seqO (ifS (cmpT eqR (varD 4) (cD (.int 2))) (retS (bin2 addR (bin2 addR (slF (varD 0) noP (someP (varD 2))) (varD 3)) (slF (varD 0) (someP (bin2 addR (varD 2) (cD (.int 1)))) noP))) Out.nx)
  (seqO (ifS (cmpT eqR (varD 4) (cD (.int 3))) (retS (bin2 addR (varD 0) (bin2 idxR (appF lstR (aC (cD (.str "signs \n")) (aC (cD (.str "copy 0 0\n")) (aC (cD (.str "copy 01 2\n")) (aC (cD (.str "signs  \n")) (aC (cD (.str "copy 1\n")) (aC (cD (.str "\n")) (aC (cD (.str "copy -1 2\n")) a0)))))))) (bin2 modR (varD 1) (cD (.int 7)))))) Out.nx)
  (seqO (ifS (cmpT eqR (varD 4) (cD (.int 4))) (retS (bin2 addR (varD 0) (varD 0))) Out.nx)
  (retS (bin2 idxR (appF lstR (aC (cD .non) (aC (cD (.int 5)) (aC (appF lstR (aC (varD 0) a0)) (aC (slF (varD 0) noP (someP (negV (cD (.int 1))))) (aC (cD (.str "signs a")) (aC (cD (.str "copy 1 2 3\n")) a0))))))) (bin2 modR (varD 1) (cD (.int 6)))))))))))))
noncomputable def g__law_spoilt : List D → Rs D := fnR 2 3 F__law_spoilt

noncomputable def F__law_lines : DS → Out :=
  (retS (methF joinR (cD (.str "")) (aC (compF [] (itF (varD 0)) (bin2 addR (methF joinSR (cD (.str " ")) (aC (compF [] (itF (varD 0)) (appF strR (aC (varD 0) a0)) tt) a0)) (cD (.str "\n"))) tt) a0)))
noncomputable def g__law_lines : List D → Rs D := fnR 1 0 F__law_lines

noncomputable def F__law_cell_at : DS → Out :=
  (seqO (ifS (cmpT ltR (varD 1) (appF lenR (aC (varD 0) a0))) (retS (bin2 idxR (varD 0) (varD 1))) Out.nx)
  (seqO (ifS (cmpT eqR (varD 0) (appF lstR a0)) (retS (cD (.int 0))) Out.nx)
  (retS (bin2 addR (bin2 mulR (bin2 idxR (varD 0) (bin2 modR (varD 1) (appF lenR (aC (varD 0) a0)))) (cD (.int 31))) (varD 1)))))
noncomputable def g__law_cell_at : List D → Rs D := fnR 2 0 F__law_cell_at

noncomputable def F__law_mixed : DS → Out :=
  (seqO (setS 3 (bin2 modR (bin2 mulR (bin2 addR (bin2 addR (appF g__law_cell_at (aC (varD 0) (aC (varD 1) a0))) (bin2 mulR (cD (.int 7919)) (varD 1))) (cD (.int 1))) (cD (.int 48271))) (cD (.int 2147483647))))
  (retS (bin2 modR (bin2 modR (bin2 addR (bin2 addR (bin2 mulR (varD 3) (varD 3)) (bin2 mulR (cD (.int 7)) (varD 3))) (varD 1)) (cD (.int 2147483629))) (varD 2))))
noncomputable def g__law_mixed : List D → Rs D := fnR 3 1 F__law_mixed

noncomputable def F_is_number : DS → Out :=
  (seqO (ifS (orT (cmpT eqR (appF lenR (aC (varD 0) a0)) (cD (.int 0))) (cmpT gtR (appF lenR (aC (varD 0) a0)) (cD (.int 300)))) (retS (cD (.bl false))) Out.nx)
  (seqO (ifS (andT (cmpT eqR (bin2 idxR (varD 0) (cD (.int 0))) (cD (.str "0"))) (cmpT gtR (appF lenR (aC (varD 0) a0)) (cD (.int 1)))) (retS (cD (.bl false))) Out.nx)
  (retS (appF allR (aC (compF [] (itF (varD 0)) (bin2 inAR (varD 0) (cD (.str "0123456789"))) tt) a0)))))
noncomputable def g_is_number : List D → Rs D := fnR 1 0 F_is_number

noncomputable def F_number_of : DS → Out :=
  (seqO (ifS (notT (valT (appF g_is_number (aC (varD 0) a0)))) (raiseS "NoLines" (aC (cD (.str "a number has 1 to 300 figures, and none but 0 itself begins with 0")) a0)) Out.nx)
  (retS (appF intTR (aC (varD 0) a0))))
noncomputable def g_number_of : List D → Rs D := fnX 1 0 F_number_of

noncomputable def F_piece_of : DS → Out :=
  (seqO (ifS (valT (methF startR (varD 0) (aC (cD (.str "signs ")) a0))) (retS (appF tupR (aC (cD (.str "signs")) (aC (slF (varD 0) (someP (appF lenR (aC (cD (.str "signs ")) a0))) noP) a0)))) Out.nx)
  (seqO (setS 1 (asV (methO splitL (varD 0) (aC (cD (.str " ")) a0))))
  (seqO (ifS (orT (cmpT neR (appF lenR (aC (varD 1) a0)) (cD (.int 3))) (cmpT neR (bin2 idxR (varD 1) (cD (.int 0))) (cD (.str "copy")))) (raiseS "NoLines" (aC (cD (.str "a line is copy with two numbers, or signs with a text")) a0)) Out.nx)
  (retS (appF tupR (aC (cD (.str "copy")) (aC (appF g_number_of (aC (bin2 idxR (varD 1) (cD (.int 1))) a0)) (aC (appF g_number_of (aC (bin2 idxR (varD 1) (cD (.int 2))) a0)) a0))))))))
noncomputable def g_piece_of : List D → Rs D := fnX 1 1 F_piece_of

noncomputable def F_is_copy : DS → Out :=
  (retS (bin2 eqR (bin2 idxR (varD 0) (cD (.int 0))) (cD (.str "copy"))))
noncomputable def g_is_copy : List D → Rs D := fnR 1 0 F_is_copy

noncomputable def F_is_sign : DS → Out :=
  (seqO (setS 1 (appF ordR (aC (varD 0) a0)))
  (retS (andV (chainV leR leR (cD (.int 32)) (varD 1) (cD (.int 126))) (bin2 neR (varD 1) (cD (.int 37))))))
noncomputable def g_is_sign : List D → Rs D := fnR 1 1 F_is_sign

noncomputable def F_is_text : DS → Out :=
  (seqO (ifS (orT (notT (valT (isiF "str" (varD 0)))) (cmpT gtR (appF lenR (aC (varD 0) a0)) (cD (.int 2000)))) (retS (cD (.bl false))) Out.nx)
  (retS (appF allR (aC (compF [] (itF (varD 0)) (appF g_is_sign (aC (varD 0) a0)) tt) a0))))
noncomputable def g_is_text : List D → Rs D := fnR 1 0 F_is_text

noncomputable def F_is_whole : DS → Out :=
  (retS (andV (isiF "int" (varD 0)) (notV (isiF "bool" (varD 0)))))
noncomputable def g_is_whole : List D → Rs D := fnR 1 0 F_is_whole

noncomputable def F_is_from : DS → Out :=
  (retS (andV (appF g_is_whole (aC (varD 0) a0)) (bin2 geR (varD 0) (varD 1))))
noncomputable def g_is_from : List D → Rs D := fnR 2 0 F_is_from

noncomputable def F_is_piece : DS → Out :=
  (seqO (ifS (orT (notT (valT (isiF "tuple" (varD 0)))) (orT (cmpT eqR (appF lenR (aC (varD 0) a0)) (cD (.int 0))) (notT (valT (isiF "str" (bin2 idxR (varD 0) (cD (.int 0)))))))) (retS (cD (.bl false))) Out.nx)
  (seqO (ifS (valT (appF g_is_copy (aC (varD 0) a0))) (retS (andV (bin2 eqR (appF lenR (aC (varD 0) a0)) (cD (.int 3))) (andV (appF g_is_from (aC (bin2 idxR (varD 0) (cD (.int 1))) (aC (cD (.int 0)) a0))) (appF g_is_from (aC (bin2 idxR (varD 0) (cD (.int 2))) (aC (cD (.int 1)) a0)))))) Out.nx)
  (seqO (ifS (orT (cmpT neR (bin2 idxR (varD 0) (cD (.int 0))) (cD (.str "signs"))) (cmpT neR (appF lenR (aC (varD 0) a0)) (cD (.int 2)))) (retS (cD (.bl false))) Out.nx)
  (retS (andV (appF g_is_text (aC (bin2 idxR (varD 0) (cD (.int 1))) a0)) (bin2 gtR (appF lenR (aC (bin2 idxR (varD 0) (cD (.int 1))) a0)) (cD (.int 0))))))))
noncomputable def g_is_piece : List D → Rs D := fnR 1 0 F_is_piece

noncomputable def F_is_letter : DS → Out :=
  (seqO (ifS (orT (notT (valT (isiF "list" (varD 0)))) (cmpT gtR (appF lenR (aC (varD 0) a0)) (cD (.int 2000)))) (retS (cD (.bl false))) Out.nx)
  (retS (appF allR (aC (compF [] (itF (varD 0)) (appF g_is_piece (aC (varD 0) a0)) tt) a0))))
noncomputable def g_is_letter : List D → Rs D := fnR 1 0 F_is_letter

noncomputable def F_read : DS → Out :=
  (seqO (ifS (notT (valT (isiF "str" (varD 0)))) (raiseS "NoLines" (aC (cD (.str "lines are a text")) a0)) Out.nx)
  (seqO (setFS 1 (methO splitL (varD 0) (aC (cD (.str "\n")) a0)))
  (seqO (ifPopX 1 "" (raiseS "NoLines" (aC (cD (.str "each line is ended by a line end")) a0)))
  (seqO (shareS' (setS 2 (compFX [] (itF (varD 1)) (appF g_piece_of (aC (varD 0) a0)))))
  (seqO (ifS (notT (valT (appF g_is_letter (aC (varD 2) a0)))) (raiseS "NoLines" (aC (cD (.str "the lines tell no letter")) a0)) Out.nx)
  (retS (varD 2)))))))
noncomputable def g_read : List D → Rs D := fnX 1 2 F_read

noncomputable def F__law_number : DS → Out :=
  (seqO (ifS (orT (cmpT eqR (varD 0) (cD (.str ""))) (cmpT neR (compF [] (itF (varD 0)) (varD 0) (cmpT ninR (varD 0) (cD (.str "0123456789")))) (appF lstR a0))) (retS (cD .non)) Out.nx)
  (seqO (ifS (andT (cmpT eqR (bin2 idxR (varD 0) (cD (.int 0))) (cD (.str "0"))) (cmpT neR (varD 0) (cD (.str "0")))) (retS (cD .non)) Out.nx)
  (retS (appF intTR (aC (varD 0) a0)))))
noncomputable def g__law_number : List D → Rs D := fnR 1 0 F__law_number

noncomputable def F__law_piece : DS → Out :=
  (seqO (ifS (cmpT eqR (slF (varD 0) noP (someP (cD (.int 6)))) (cD (.str "signs "))) (retS (appF tupR (aC (cD (.str "signs")) (aC (slF (varD 0) (someP (cD (.int 6))) noP) a0)))) Out.nx)
  (seqO (setS 1 (asV (methO splitL (varD 0) (aC (cD (.str " ")) a0))))
  (seqO (ifS (orT (cmpT neR (appF lenR (aC (varD 1) a0)) (cD (.int 3))) (cmpT neR (bin2 idxR (varD 1) (cD (.int 0))) (cD (.str "copy")))) (retS (cD .non)) Out.nx)
  (retS (appF tupR (aC (cD (.str "copy")) (aC (appF g__law_number (aC (bin2 idxR (varD 1) (cD (.int 1))) a0)) (aC (appF g__law_number (aC (bin2 idxR (varD 1) (cD (.int 2))) a0)) a0))))))))
noncomputable def g__law_piece : List D → Rs D := fnR 1 1 F__law_piece

noncomputable def F__law_whole : DS → Out :=
  (retS (andV (isiF "int" (varD 0)) (notV (isiF "bool" (varD 0)))))
noncomputable def g__law_whole : List D → Rs D := fnR 1 0 F__law_whole

noncomputable def F__law_is_piece : DS → Out :=
  (seqO (ifS (orT (notT (valT (isiF "tuple" (varD 0)))) (cmpT ltR (appF lenR (aC (varD 0) a0)) (cD (.int 2)))) (retS (cD (.bl false))) Out.nx)
  (seqO (ifS (cmpT eqR (bin2 idxR (varD 0) (cD (.int 0))) (cD (.str "signs"))) (retS (andV (bin2 eqR (appF lenR (aC (varD 0) a0)) (cD (.int 2))) (andV (isiF "str" (bin2 idxR (varD 0) (cD (.int 1)))) (bin2 neR (bin2 idxR (varD 0) (cD (.int 1))) (cD (.str "")))))) Out.nx)
  (seqO (ifS (orT (cmpT neR (bin2 idxR (varD 0) (cD (.int 0))) (cD (.str "copy"))) (cmpT neR (appF lenR (aC (varD 0) a0)) (cD (.int 3)))) (retS (cD (.bl false))) Out.nx)
  (retS (andV (appF g__law_whole (aC (bin2 idxR (varD 0) (cD (.int 1))) a0)) (andV (bin2 geR (bin2 idxR (varD 0) (cD (.int 1))) (cD (.int 0))) (andV (appF g__law_whole (aC (bin2 idxR (varD 0) (cD (.int 2))) a0)) (bin2 gtR (bin2 idxR (varD 0) (cD (.int 2))) (cD (.int 0))))))))))
noncomputable def g__law_is_piece : List D → Rs D := fnR 1 0 F__law_is_piece

noncomputable def F__law_is_letter : DS → Out :=
  (retS (andV (isiF "list" (varD 0)) (bin2 eqR (compF [] (itF (varD 0)) (varD 0) (notT (valT (appF g__law_is_piece (aC (varD 0) a0))))) (appF lstR a0))))
noncomputable def g__law_is_letter : List D → Rs D := fnR 1 0 F__law_is_letter

noncomputable def F__law_due : DS → Out :=
  (seqO (ifS (orT (notT (valT (isiF "str" (varD 0)))) (andT (cmpT neR (varD 0) (cD (.str ""))) (cmpT neR (bin2 idxR (varD 0) (negV (cD (.int 1)))) (cD (.str "\n"))))) (retS (cD .non)) Out.nx)
  (seqO (setS 1 (compF [] (itF (slF (asV (methO splitL (varD 0) (aC (cD (.str "\n")) a0))) noP (someP (negV (cD (.int 1)))))) (appF g__law_piece (aC (varD 0) a0)) tt))
  (seqO (ifS (notT (valT (appF g__law_is_letter (aC (varD 1) a0)))) (retS (cD .non)) Out.nx)
  (retS (varD 1)))))
noncomputable def g__law_due : List D → Rs D := fnR 1 1 F__law_due

noncomputable def L__law_text_1 : DS → Out :=
  (seqO (setS 7 (bin2 modR (bin2 mulR (bin2 addR (bin2 addR (varD 4) (bin2 mulR (bin2 mulR (cD (.int 7919)) (varD 6)) (varD 6))) (bin2 mulR (cD (.int 104729)) (varD 6))) (cD (.int 48271))) (cD (.int 2147483647))))
  (setS 5 (bin2 addR (varD 5) (bin2 idxR (varD 3) (bin2 modR (bin2 fdivR (bin2 modR (bin2 mulR (varD 7) (bin2 addR (varD 7) (cD (.int 3)))) (cD (.int 2147483629))) (cD (.int 7))) (appF lenR (aC (varD 3) a0)))))))
noncomputable def F__law_text : DS → Out :=
  (seqO (setS 3 (bin2 idxR (appF lstR (aC (cD (.str "a")) (aC (cD (.str "ab")) (aC (cD (.str "ab")) (aC (cD (.str "abc")) (aC (cD (.str " ~!&bzAZ09")) a0)))))) (appF g__law_mixed (aC (varD 0) (aC (varD 1) (aC (cD (.int 5)) a0))))))
  (seqO (setS 4 (appF g__law_mixed (aC (varD 0) (aC (bin2 addR (varD 1) (cD (.int 1))) (aC (bin2 powR (cD (.int 10)) (cD (.int 9))) a0)))))
  (seqO (setS 5 (cD (.str "")))
  (seqO (forS (rng1 (aC (appF g__law_mixed (aC (varD 0) (aC (bin2 addR (varD 1) (cD (.int 2))) (aC (bin2 addR (varD 2) (cD (.int 1))) a0)))) a0)) (tgN 6) L__law_text_1)
  (retS (varD 5))))))
noncomputable def g__law_text : List D → Rs D := fnR 3 5 F__law_text

noncomputable def L__law_letter_1 : DS → Out :=
  (seqO (setS 6 (bin2 addR (bin2 addR (varD 1) (cD (.int 1))) (bin2 mulR (cD (.int 4)) (varD 5))))
  (seqO (setS 7 (appF g__law_text (aC (varD 0) (aC (varD 6) (aC (cD (.int 3)) a0)))))
  (ifS (orT (cmpT eqR (varD 2) (cD (.int 0))) (cmpT eqR (appF g__law_mixed (aC (varD 0) (aC (bin2 addR (varD 6) (cD (.int 3))) (aC (cD (.int 3)) a0)))) (cD (.int 0)))) (mutS 4 appM (aC (appF tupR (aC (cD (.str "signs")) (aC (bin2 addR (varD 7) (cD (.str "b"))) a0))) a0)) (seqO (setS 8 (appF g__law_mixed (aC (varD 0) (aC (bin2 addR (varD 6) (cD (.int 1))) (aC (varD 2) a0)))))
  (seqO (ifS (andT (lentT (cmpT neR (varD 4) (appF lstR a0))) (andT (cmpT eqR (bin2 idxR (ixO 4 (negV (cD (.int 1)))) (cD (.int 0))) (cD (.str "copy"))) (cmpT ltR (bin2 addR (bin2 idxR (ixO 4 (negV (cD (.int 1)))) (cD (.int 1))) (bin2 idxR (ixO 4 (negV (cD (.int 1)))) (cD (.int 2)))) (varD 2)))) (setS 8 (bin2 idxR (appF lstR (aC (varD 8) (aC (bin2 addR (bin2 idxR (ixO 4 (negV (cD (.int 1)))) (cD (.int 1))) (bin2 idxR (ixO 4 (negV (cD (.int 1)))) (cD (.int 2)))) a0))) (appF g__law_mixed (aC (varD 0) (aC (varD 6) (aC (cD (.int 2)) a0)))))) Out.nx)
  (mutS 4 appM (aC (appF tupR (aC (cD (.str "copy")) (aC (varD 8) (aC (bin2 addR (cD (.int 1)) (appF g__law_mixed (aC (varD 0) (aC (bin2 addR (varD 6) (cD (.int 2))) (aC (bin2 subR (varD 2) (varD 8)) a0))))) a0)))) a0)))))))
noncomputable def F__law_letter : DS → Out :=
  (seqO (ownS 4 a0)
  (seqO (forS (rng1 (aC (appF g__law_mixed (aC (varD 0) (aC (varD 1) (aC (bin2 addR (varD 3) (cD (.int 1))) a0)))) a0)) (tgN 5) L__law_letter_1)
  (shareS' (retS (varD 4)))))
noncomputable def g__law_letter : List D → Rs D := fnR 4 5 F__law_letter

noncomputable def F_law : DS → Out :=
  (seqO (setS 1 (appF g__law_spoilt (aC (appF g__law_lines (aC (appF g__law_letter (aC (varD 0) (aC (cD (.int 1)) (aC (cD (.int 20)) (aC (cD (.int 4)) a0))))) a0)) (aC (appF g__law_mixed (aC (varD 0) (aC (cD (.int 0)) (aC (bin2 powR (cD (.int 10)) (cD (.int 6))) a0)))) a0))))
  (seqO (setS 2 (cD .non))
  (seqO (tryS2 ["NoLines"] 3 (setS 2 (appF g_read (aC (varD 1) a0))) (ifS (orT (notT (valT (isxF ["NoLines"] (varD 3)))) (orT (notT (valT (isxF ["NoLines"] (varD 3)))) (valT (isyF ["NoLines"] false (varD 3))))) (retS (cD (.bl false))) Out.nx))
  (retS (bin2 eqR (varD 2) (appF g__law_due (aC (varD 1) a0)))))))
noncomputable def g_law : List D → Rs D := fnR 1 3 F_law

end A

namespace A
open PySem PySem.Spec PyProof.Rows L2 M
set_option autoImplicit false
noncomputable def scr (ns : List Int) : D := .lst (ns.map D.int)
theorem eqBs_ints : ∀ ns : List Int, eqBs (ns.map D.int) [] = ns.isEmpty
  | [] => rfl
  | _ :: _ => rfl
theorem cell_ok (ns : List Int) (k : Nat) : ∃ z, g__law_cell_at [scr ns, .int k] = .ok (.int z) := by
  unfold g__law_cell_at
  simp only [s_fn2]
  unfold F__law_cell_at scr
  obtain ⟨L, hL⟩ : ∃ L, L = ns.map D.int := ⟨_, rfl⟩
  have hl : L.length = ns.length := by rw [hL, List.length_map]
  have hq : eqR (.lst L) (.lst []) = .ok (.bl ns.isEmpty) := by rw [eq_r (by decide) (by rw [hL, lay_lst]; exact layL_map (fun _ => lay_int _) ns) (by simp), hL, eqB_lst, eqBs_ints]
  have hi : ∀ i (h : i < ns.length), idxR (.lst L) (.int i) = .ok (.int ns[i]) := fun i h => ix_lst (by rw [hL]; simp [h])
  rw [← hL]
  by_cases h : k < ns.length
  · refine ⟨ns[k], ?_⟩
    simp [hl, h, hi k h]
  · have h' : ¬ ((k : Int) < (ns.length : Int)) := by omega
    by_cases h0 : ns.length = 0
    · have e : ns.isEmpty = true := by cases ns with | nil => rfl | cons => simp at h0
      exact ⟨0, by simp [hl, h, hq, e]⟩
    · have e : ns.isEmpty = false := by cases ns with | nil => simp at h0 | cons => rfl
      have hp : (0 : Int) < (ns.length : Int) := by omega
      have hm : k % ns.length < ns.length := Nat.mod_lt _ (by omega)
      have e1 := hi _ hm
      rw [Int.natCast_emod] at e1
      have e2 := mul_r (i := ns[k % ns.length]) (j := 31) (by decide)
      exact ⟨ns[k % ns.length] * 31 + k, by simp [hl, h, hq, e, s_mod hp, e1, e2]⟩
theorem mixed_ok (ns : List Int) (k : Nat) {m : Int} (hm : 0 < m) : ∃ z, g__law_mixed [scr ns, .int k, .int m] = .ok (.int z) ∧ 0 ≤ z ∧ z < m := by
  obtain ⟨c, hc⟩ := cell_ok ns k
  unfold g__law_mixed
  simp only [s_fn3]
  unfold F__law_mixed
  obtain ⟨d, hd⟩ : ∃ d, d = (c + 7919 * (k : Int) + 1) * 48271 % 2147483647 := ⟨_, rfl⟩
  have hd1 : 0 ≤ d := by rw [hd]; exact Int.emod_nonneg _ (by decide)
  have hd2 : d < 2147483647 := by rw [hd]; exact Int.emod_lt_of_pos _ (by decide)
  refine ⟨(d * d + 7 * d + k) % 2147483629 % m, ?_, Int.emod_nonneg _ (by omega), Int.emod_lt_of_pos _ hm⟩
  have e1 := mul_l (i := 7919) (j := (k : Int)) (by decide)
  have e2 := mul_r (i := c + 7919 * (k : Int) + 1) (j := 48271) (by decide)
  have e3 := mul_l (i := d) (j := d) (by omega)
  have e4 := mul_l (i := 7) (j := d) (by decide)
  have e5 := s_mod (i := (c + 7919 * (k : Int) + 1) * 48271) (j := 2147483647) (by decide)
  rw [← hd] at e5
  have e6 := s_mod (i := d * d + 7 * d + k) (j := 2147483629) (by decide)
  simp [hc, e1, e2, e3, e4, e5, e6, s_mod hm]
noncomputable abbrev okc (c : Nat) : Prop := 32 ≤ c ∧ c ≤ 126 ∧ c ≠ 37
noncomputable def Good (n : Nat) (t : Str) : Prop := t.length ≤ n ∧ ∀ c ∈ t.cps.toList, okc c
theorem mixN (ns : List Int) (k : Int) (hk : 0 ≤ k) {m : Int} (hm : 0 < m) : ∃ z, g__law_mixed [scr ns, .int k, .int m] = .ok (.int z) ∧ 0 ≤ z ∧ z < m := by
  obtain ⟨j, rfl⟩ := Int.eq_ofNat_of_zero_le hk
  exact mixed_ok ns j hm
theorem len_app (a b : Str) : (a ++ b).length = a.length + b.length := by simp [Str.length, show (a ++ b).cps = a.cps ++ b.cps from rfl]
theorem text_ok (ns : List Int) (at' : Nat) (most : Nat) (hm : most ≤ 1000) : ∃ t, g__law_text [scr ns, .int at', .int most] = .ok (.str t) ∧ Good most t := by
  obtain ⟨z1, q1, h1, h1'⟩ := mixed_ok ns at' (m := 5) (by decide)
  obtain ⟨z2, q2, h2, h2'⟩ := mixN ns ((at' : Int) + 1) (by omega) (m := 1000000000) (by decide)
  obtain ⟨z3, q3, h3, h3'⟩ := mixN ns ((at' : Int) + 2) (by omega) (m := (most : Int) + 1) (by omega)
  have hpow : powR (.int 10) (.int 9) = .ok (.int 1000000000) := by simp [s_pow]
  -- the signs
  obtain ⟨sg, hs, hg⟩ : ∃ sg : Str, idxR (.lst [.str "a", .str "ab", .str "ab", .str "abc", .str " ~!&bzAZ09"]) (.int z1) = .ok (.str sg) ∧ (0 < sg.length ∧ sg.length ≤ 20 ∧ ∀ c ∈ sg.cps.toList, okc c) := by
    have : z1 = 0 ∨ z1 = 1 ∨ z1 = 2 ∨ z1 = 3 ∨ z1 = 4 := by omega
    rcases this with rfl | rfl | rfl | rfl | rfl
    · exact ⟨"a", ix_lst (i := 0) rfl, by decide +kernel⟩
    · exact ⟨"ab", ix_lst (i := 1) rfl, by decide +kernel⟩
    · exact ⟨"ab", ix_lst (i := 2) rfl, by decide +kernel⟩
    · exact ⟨"abc", ix_lst (i := 3) rfl, by decide +kernel⟩
    · exact ⟨" ~!&bzAZ09", ix_lst (i := 4) rfl, by decide +kernel⟩
  obtain ⟨hg0, hg1, hg2⟩ := hg
  unfold g__law_text
  simp only [s_fn3]
  unfold F__law_text
  have hl : lstR [.str "a", .str "ab", .str "ab", .str "abc", .str " ~!&bzAZ09"] = .ok (.lst [.str "a", .str "ab", .str "ab", .str "abc", .str " ~!&bzAZ09"]) := rfl
  have hr := rng1_ok (j := z3) (by omega)
  have loop : ∃ δ', forO (tgN 6) L__law_text_1 (rngD 0 z3.toNat) [some (.v (scr ns)), some (.v (.int at')), some (.v (.int most)), some (.v (.str sg)), some (.v (.int z2)), some (.v (.str "")), none, none] = .nx δ' ∧
      ∃ x6 x7 t, δ' = [some (.v (scr ns)), some (.v (.int at')), some (.v (.int most)), some (.v (.str sg)), some (.v (.int z2)), some (.v (.str t)), x6, x7] ∧ Good (rngD 0 z3.toNat).length t := by
    refine for_do (fun pre δ => ∃ x6 x7 t, δ = [some (.v (scr ns)), some (.v (.int at')), some (.v (.int most)), some (.v (.str sg)), some (.v (.int z2)), some (.v (.str t)), x6, x7] ∧ Good pre.length t)
      ⟨none, none, "", rfl, Nat.zero_le _, fun c hc => absurd (show c ∈ ([] : List Nat) from hc) (by simp)⟩ ?_
    rintro d p q δ e ⟨x6, x7, t, rfl, ht⟩
    have hd : d ∈ rngD 0 z3.toNat := by rw [e]; simp
    obtain ⟨k, hk, rfl⟩ : ∃ k : Nat, k < z3.toNat ∧ d = .int k := by
      simp [rngD] at hd
      obtain ⟨k, hk, rfl⟩ := hd
      exact ⟨k, by omega, rfl⟩
    have hlen : p.length < z3.toNat := by
      have := congrArg List.length e
      simp [rngD] at this
      omega
    have hk' : k ≤ 1000 := by omega
    obtain ⟨dr, hdr⟩ : ∃ dr, dr = (z2 + 7919 * (k : Int) * (k : Int) + 104729 * (k : Int)) * 48271 % 2147483647 := ⟨_, rfl⟩
    have hd1 : 0 ≤ dr := by rw [hdr]; exact Int.emod_nonneg _ (by decide)
    have hd2 : dr < 2147483647 := by rw [hdr]; exact Int.emod_lt_of_pos _ (by decide)
    have e1 := mul_l (i := 7919) (j := (k : Int)) (by decide)
    have e2 := mul_r (i := 7919 * (k : Int)) (j := (k : Int)) (by omega)
    have e3 := mul_l (i := 104729) (j := (k : Int)) (by decide)
    have e4 := mul_r (i := z2 + 7919 * (k : Int) * (k : Int) + 104729 * (k : Int)) (j := 48271) (by decide)
    have e5 := s_mod (i := (z2 + 7919 * (k : Int) * (k : Int) + 104729 * (k : Int)) * 48271) (j := 2147483647) (by decide)
    rw [← hdr] at e5
    have e6 := mul_l (i := dr) (j := dr + 3) (by omega)
    have e7 := s_mod (i := dr * (dr + 3)) (j := 2147483629) (by decide)
    have e8 := s_fdiv (i := dr * (dr + 3) % 2147483629) (j := 7) (by decide)
    have e9 := s_mod (i := dr * (dr + 3) % 2147483629 / 7) (j := (sg.length : Int)) (by omega)
    obtain ⟨ix, hix⟩ := Int.eq_ofNat_of_zero_le (show 0 ≤ dr * (dr + 3) % 2147483629 / 7 % (sg.length : Int) from Int.emod_nonneg _ (by omega))
    have hix2 : ix < sg.cps.toList.length := by
      have := Int.emod_lt_of_pos (dr * (dr + 3) % 2147483629 / 7) (show (0 : Int) < (sg.length : Int) by omega)
      have hh : sg.cps.toList.length = sg.length := by simp [Str.length]
      omega
    obtain ⟨c, hc⟩ : ∃ c, sg.cps.toList[ix]? = some c := ⟨_, List.getElem?_eq_getElem hix2⟩
    have e10 := ix_str (z := sg) (i := ix) hc
    rw [hix] at e9
    have hs1 : (1000000 : Nat) ≤ sizeLine := by decide
    have ht1 := ht.1
    have hc1 : (chr1 c).length = 1 := rfl
    have e11 := s_adds (i := t) (j := chr1 c) (by rw [hc1]; omega)
    refine ⟨_, _, rfl, .inl (show _ = Out.nx [some (.v (scr ns)), some (.v (.int at')), some (.v (.int most)), some (.v (.str sg)), some (.v (.int z2)), some (.v (.str (t ++ chr1 c))), some (.v (.int k)), some (.v (.int dr))] from ?_), _, _, t ++ chr1 c, rfl, ?_, fun c' hc' => ?_⟩
    · simp [L__law_text_1, e1, e2, e3, e4, e5, e6, e7, e8, e9, e10, e11]
    · rw [len_app, List.length_append, hc1]; simp; omega
    · have : c' ∈ t.cps.toList ++ [c] := by
        have e : (t ++ chr1 c).cps.toList = t.cps.toList ++ [c] := by
          show (t.cps ++ #[c]).toList = _
          simp
        rw [e] at hc'; exact hc'
      rcases List.mem_append.mp this with h | h
      · exact ht.2 c' h
      · rw [List.mem_singleton.mp h]; exact hg2 _ (List.mem_of_getElem? hc)
  obtain ⟨δ', eL, x6, x7, t, rfl, ht⟩ := loop
  refine ⟨t, by simp [hl, q1, q2, q3, hs, hpow, hr, eL], ?_, ht.2⟩
  have := ht.1
  simp [rngD] at this
  omega

structure KeyOk (few times many : Int) : Prop where
  f1 : 1 ≤ few
  f2 : few ≤ 999
  t1 : 1 ≤ times
  t2 : times ≤ 999
  m1 : 1 ≤ many
  m2 : many ≤ 99999
noncomputable def keyD (few times many : Int) : D := .tup [.int few, .int times, .int many]
theorem is_sign_ok {c : Nat} (h : okc c) : g_is_sign [.str (chr1 c)] = .ok (.bl true) := by
  obtain ⟨h1, h2, h3⟩ := h
  have e1 : (32 : Int) ≤ c := by omega
  have e2 : (c : Int) ≤ 126 := by omega
  have e3 : ¬ (c : Int) = 37 := by omega
  simp [g_is_sign, F_is_sign, e1, e2, e3]
theorem signs_len (t : Str) : (signsD t).length = t.length := by simp [signsD, Str.length]
theorem is_text_ok {t : Str} (h : Good 2000 t) : g_is_text [.str t] = .ok (.bl true) := by
  have h1 : ¬ ((2000 : Int) < (t.length : Int)) := by have := h.1; omega
  have e1 : compL (fun d => g_is_sign [d]) (fun _ => .ok true) (signsD t) = .ok (t.cps.toList.map fun _ => D.bl true) := comp_list _ (fun _ => D.bl true) fun c hc => is_sign_ok (h.2 c hc)
  have e2 : bigR (signsD t) (.ok (t.cps.toList.map fun _ => D.bl true)) = .ok (.lst (t.cps.toList.map fun _ => D.bl true)) := big_ok (by rw [signs_len]; have := h.1; omega)
  have e3 : allR [.lst (t.cps.toList.map fun _ => D.bl true)] = .ok (.bl true) := by
    unfold allR
    dsimp only
    rw [boolsOf_map (fun _ => true)]
    simp
  simp [g_is_text, F_is_text, h1, e1, e2, e3]
theorem Good.mono {n m : Nat} {t : Str} (h : Good n t) (hm : n ≤ m) : Good m t := ⟨Nat.le_trans h.1 hm, h.2⟩

theorem toList_len (t : Str) : t.cps.toList.length = t.length := by simp [Str.length]
noncomputable def strOf (l : List Nat) : Str := ⟨l.toArray⟩
theorem codes_strOf (l : List Nat) : (strOf l).cps.toList = l := by simp [strOf]
theorem len_strOf (l : List Nat) : (strOf l).length = l.length := by simp [strOf, Str.length]
theorem strOf_codes (t : Str) : strOf t.cps.toList = t := by simp [strOf]
theorem cutT_to (t : Str) (b : Nat) : cutT t none (some (b : Int)) = strOf (t.cps.toList.take b) := by unfold cutT; rw [cut_to]; rfl
theorem cutT_from (t : Str) (a : Nat) : cutT t (some (a : Int)) none = strOf (t.cps.toList.drop a) := by unfold cutT; rw [cut_from]; rfl
theorem range_mid {N k : Nat} {p q : List Nat} (e : List.range N = p ++ k :: q) : k = p.length ∧ p.length < N := by
  have h1 : (List.range N)[p.length]? = some k := by rw [e]; simp
  obtain ⟨h2, h3⟩ := List.getElem?_eq_some_iff.mp h1
  rw [List.getElem_range] at h3
  rw [List.length_range] at h2
  exact ⟨h3.symm, h2⟩

inductive Pc where
  | cp (p m : Nat) | sg (w : List Nat)
noncomputable def pcD : Pc → D
  | .cp p m => .tup [.str "copy", .int p, .int m]
  | .sg w => .tup [.str "signs", .str (strOf w)]
noncomputable def PcG : Pc → Prop
  | .cp p m => 1 ≤ m
  | .sg w => 1 ≤ w.length ∧ w.length ≤ 2000 ∧ ∀ c ∈ w, okc c
noncomputable def letD (ps : List Pc) : D := .lst (ps.map pcD)
theorem ne_sc : (Str.ofString "signs" == Str.ofString "copy") = false := by decide +kernel
theorem ne_cs : (Str.ofString "copy" == Str.ofString "signs") = false := by decide +kernel
theorem is_copy_cp (p m : Nat) : g_is_copy [pcD (.cp p m)] = .ok (.bl true) := by
  simp [g_is_copy, F_is_copy, pcD]
theorem is_copy_sg (w : List Nat) : g_is_copy [pcD (.sg w)] = .ok (.bl false) := by
  simp [g_is_copy, F_is_copy, pcD, ne_sc]
theorem good_strOf {w : List Nat} {n : Nat} (h1 : w.length ≤ n) (h2 : ∀ c ∈ w, okc c) : Good n (strOf w) := ⟨by rw [len_strOf]; exact h1, fun c hc => h2 c (by rwa [codes_strOf] at hc)⟩
theorem pcD_dep (x : Pc) : dep (pcD x) ≤ 1 := by cases x <;> simp [pcD]
theorem letD_dep (ps : List Pc) : dep (letD ps) ≤ 64 := by
  unfold letD
  have : deps (ps.map pcD) ≤ 1 := deps_le fun d hd => by
    obtain ⟨x, _, rfl⟩ := List.mem_map.mp hd
    exact pcD_dep x
  rw [dep_lst]; omega
theorem pcD_lay (x : Pc) : lay (pcD x) = true := by cases x <;> simp [pcD]
theorem letD_lay (ps : List Pc) : lay (letD ps) = true := by unfold letD; rw [lay_lst]; exact layL_map pcD_lay ps
theorem let_eq (ps : List Pc) : eqR (letD ps) (letD ps) = .ok (.bl true) := by rw [eq_l (letD_dep ps) (letD_lay ps) (letD_lay ps)]; simp

theorem catS_strOf (T : List (List Nat)) : catS (T.map strOf) = strOf T.flatten := by
  unfold catS strOf
  rw [List.map_map]
  simp [Function.comp_def]
theorem atI_m1 (L : List D) (d : D) : idxR (.lst (L ++ [d])) (.int (-1)) = .ok d := by
  show (match atI (L ++ [d]) (-1) with | some d => Rs.ok d | none => .bad) = _
  rw [atI_last]
inductive Mk where
  | s (c : Nat) | p (i : Nat)
noncomputable def marksOf : Pc → List Mk
  | .cp a m => (List.range m).map fun k => .p (a + k)
  | .sg w => w.map .s
noncomputable def marks (ps : List Pc) : List Mk := ps.flatMap marksOf
noncomputable def PcV : Pc → Prop
  | .cp _ m => 1 ≤ m
  | .sg w => w ≠ []
structure StI (s : List Pc × List (List Nat)) : Prop where
  t : ∀ w ∈ s.2, w ≠ []
  l : s.1 = [] ∨ ∃ L0 b k, s.1 = L0 ++ [.cp b (k + 1)]
noncomputable def PcIn (n : Nat) : Pc → Prop
  | .cp a m => a + m ≤ n
  | .sg _ => True
noncomputable def PcW : Pc → Prop
  | .cp _ m => 1 ≤ m
  | .sg w => w ≠ [] ∧ ∀ c ∈ w, okc c
theorem PcW.v {x : Pc} (h : PcW x) : PcV x := by
  cases x with
  | cp a m => exact h
  | sg w => exact h.1
theorem PcG.w {x : Pc} (h : PcG x) : PcW x := by
  cases x with
  | cp a m => exact h
  | sg w => exact ⟨List.length_pos_iff.mp h.1, h.2.2⟩
noncomputable def LP (n : Nat) : Pc → Prop
  | .cp a m => 1 ≤ m ∧ a + m ≤ n
  | .sg w => 1 ≤ w.length ∧ w.length ≤ 4 ∧ ∀ c ∈ w, okc c
theorem ne_nil_pcs (ps : List Pc) : neR (.lst (ps.map pcD)) (.lst []) = .ok (.bl (!ps.isEmpty)) := by
  rw [ne_r (by decide) (by rw [lay_lst]; exact layL_map pcD_lay ps) (by simp)]
  cases ps <;> rfl
theorem strOf_app (a : Str) (c : Nat) : a ++ chr1 c = strOf (a.cps.toList ++ [c]) := by
  show (⟨a.cps ++ #[c]⟩ : Str) = ⟨_⟩
  congr 1
  apply Array.ext'
  simp
theorem law_letter_loop (ns : List Int) (at' n most : Nat) (hn : n ≤ 1000) (hm : most ≤ 100) (hat : at' ≤ 1000) (z : Int) (z0 : 0 ≤ z) (z1 : z < (most : Int) + 1) :
    ∃ δ', forO (tgN 5) L__law_letter_1 (rngD 0 z.toNat) [some (.v (scr ns)), some (.v (.int at')), some (.v (.int n)), some (.v (.int most)), some (.own []), none, none, none, none] = .nx δ' ∧
      ∃ ps : List Pc, (∃ x5 x6 x7 x8, δ' = [some (.v (scr ns)), some (.v (.int at')), some (.v (.int n)), some (.v (.int most)), some (.own (ps.map pcD)), x5, x6, x7, x8]) ∧ ps.length ≤ (List.range z.toNat).length ∧ ∀ x ∈ ps, LP n x := by
    refine for_map (fun k : Nat => D.int (0 + (k : Int))) (fun p δ => ∃ ps : List Pc, (∃ x5 x6 x7 x8, δ = [some (.v (scr ns)), some (.v (.int at')), some (.v (.int n)), some (.v (.int most)), some (.own (ps.map pcD)), x5, x6, x7, x8]) ∧ ps.length ≤ p.length ∧ ∀ x ∈ ps, LP n x)
      ⟨[], ⟨none, none, none, none, rfl⟩, Nat.le_refl _, fun x hx => by simp at hx⟩ ?_
    rintro k p q δ e ⟨ps, ⟨x5, x6, x7, x8, rfl⟩, hpl, hps⟩
    obtain ⟨rfl, hk2⟩ := range_mid e
    have hkb : p.length ≤ 100 := by omega
    rw [show (0 : Int) + (p.length : Int) = (p.length : Int) by omega]
    have m4 := mul_l (i := 4) (j := (p.length : Int)) (by decide)
    obtain ⟨pl, hplc⟩ : ∃ pl : Nat, pl = at' + 1 + 4 * p.length := ⟨_, rfl⟩
    have hpi : (at' : Int) + 1 + 4 * (p.length : Int) = (pl : Int) := by omega
    obtain ⟨t, et, ht⟩ := text_ok ns pl 3 (by decide)
    obtain ⟨y, ey, y0, y1⟩ := mixN ns ((pl : Int) + 3) (by omega) (m := 3) (by decide)
    have hb : (Str.ofString "b") = chr1 98 := by decide +kernel
    have hs1 : (1000000 : Nat) < sizeLine := million
    have ht1 := ht.1
    have ad : addR (.str t) (.str (Str.ofString "b")) = .ok (.str (strOf (t.cps.toList ++ [98]))) := by
      rw [s_adds (by rw [hb]; have : (chr1 98).length = 1 := rfl; omega), hb, strOf_app]
    have amS := s_appM (ds := ps.map pcD) (d := pcD (.sg (t.cps.toList ++ [98]))) (by rw [List.length_map]; omega)
    rw [show ps.map pcD ++ [pcD (.sg (t.cps.toList ++ [98]))] = (ps ++ [Pc.sg (t.cps.toList ++ [98])]).map pcD by rw [List.map_append]; rfl] at amS
    have amS : appM (ps.map pcD) [.tup [.str "signs", .str (strOf (t.cps.toList ++ [98]))]] = .ok ((ps ++ [Pc.sg (t.cps.toList ++ [98])]).map pcD) := amS
    have hLS : LP n (.sg (t.cps.toList ++ [98])) := by
      have := toList_len t
      refine ⟨by rw [List.length_append, List.length_singleton]; omega, by rw [List.length_append, List.length_singleton]; omega, fun c hc => ?_⟩
      rcases List.mem_append.mp hc with w | w
      · exact ht.2 c w
      · rw [List.mem_singleton.mp w]; decide
    simp at et
    by_cases hc : n = 0 ∨ y = 0
    · refine ⟨_, _, rfl, .inl (show _ = Out.nx [some (.v (scr ns)), some (.v (.int at')), some (.v (.int n)), some (.v (.int most)), some (.own ((ps ++ [Pc.sg (t.cps.toList ++ [98])]).map pcD)), some (.v (.int (p.length : Int))), some (.v (.int pl)), some (.v (.str t)), x8] from ?_), ps ++ [.sg (t.cps.toList ++ [98])], ⟨_, _, _, _, rfl⟩, ?_, fun x hx => ?_⟩
      · generalize (ps ++ [Pc.sg (t.cps.toList ++ [98])]).map pcD = L2 at amS ⊢
        generalize ps.map pcD = L1 at amS ⊢
        generalize strOf (t.cps.toList ++ [98]) = SS at ad amS
        rcases hc with h0 | h0
        · subst h0
          simp [L__law_letter_1, m4, hpi, et, ad, amS]
        · subst h0
          by_cases hn0 : n = 0
          · subst hn0
            simp [L__law_letter_1, m4, hpi, et, ad, amS]
          · simp [L__law_letter_1, m4, hpi, et, ey, ad, amS, hn0]
      · rw [List.length_append, List.length_append]; simp; omega
      · rcases List.mem_append.mp hx with w | w
        · exact hps x w
        · rw [List.mem_singleton.mp w]; exact hLS
    · have hn0 : ¬ n = 0 := fun h => hc (.inl h)
      have hy0 : ¬ y = 0 := fun h => hc (.inr h)
      obtain ⟨f0, ef, f1, f2⟩ := mixN ns ((pl : Int) + 1) (by omega) (m := (n : Int)) (by omega)
      obtain ⟨u, eu, u0, u1⟩ := mixN ns (pl : Int) (by omega) (m := 2) (by decide)
      -- the place
      have fin' : ∀ (f : Int), 0 ≤ f → f < n → ∃ m : Nat, (g__law_mixed [scr ns, .int ((pl : Int) + 2), .int ((n : Int) - f)] >>= fun z => addR (.int 1) z) = .ok (.int (m : Int)) ∧ LP n (.cp f.toNat m) := fun f h1 h2 => by
        obtain ⟨v, ev, v0, v1⟩ := mixN ns ((pl : Int) + 2) (by omega) (m := (n : Int) - f) (by omega)
        refine ⟨(1 + v).toNat, ?_, ?_, ?_⟩
        · rw [ev]; simp; omega
        · omega
        · omega
      have first : ∃ f : Int, 0 ≤ f ∧ f < n ∧ (ifS (andT (lentT (cmpT neR (varD 4) (appF lstR a0))) (andT (cmpT eqR (bin2 idxR (ixO 4 (negV (cD (.int 1)))) (cD (.int 0))) (cD (.str "copy"))) (cmpT ltR (bin2 addR (bin2 idxR (ixO 4 (negV (cD (.int 1)))) (cD (.int 1))) (bin2 idxR (ixO 4 (negV (cD (.int 1)))) (cD (.int 2)))) (varD 2)))) (setS 8 (bin2 idxR (appF lstR (aC (varD 8) (aC (bin2 addR (bin2 idxR (ixO 4 (negV (cD (.int 1)))) (cD (.int 1))) (bin2 idxR (ixO 4 (negV (cD (.int 1)))) (cD (.int 2)))) a0))) (appF g__law_mixed (aC (varD 0) (aC (varD 6) (aC (cD (.int 2)) a0)))))) Out.nx)
          [some (.v (scr ns)), some (.v (.int at')), some (.v (.int n)), some (.v (.int most)), some (.own (ps.map pcD)), some (.v (.int (p.length : Int))), some (.v (.int pl)), some (.v (.str t)), some (.v (.int f0))] =
          .nx [some (.v (scr ns)), some (.v (.int at')), some (.v (.int n)), some (.v (.int most)), some (.own (ps.map pcD)), some (.v (.int (p.length : Int))), some (.v (.int pl)), some (.v (.str t)), some (.v (.int f))] := by
        have hnn := ne_nil_pcs ps
        cases hl : ps.getLast? with
        | none =>
          have hpn : ps = [] := List.getLast?_eq_none_iff.mp hl
          subst hpn
          have hnn : neR (.lst []) (.lst []) = .ok (.bl false) := hnn
          exact ⟨f0, f1, f2, by simp [hnn]⟩
        | some x =>
          obtain ⟨p0, rfl⟩ := List.getLast?_eq_some_iff.mp hl
          have hem : (p0 ++ [x]).isEmpty = false := by simp
          rw [hem] at hnn
          have hix := atI_m1 (p0.map pcD) (pcD x)
          rw [show p0.map pcD ++ [pcD x] = (p0 ++ [x]).map pcD by rw [List.map_append]; rfl] at hix
          have hx := hps x (by simp)
          generalize (p0 ++ [x]).map pcD = L1 at hnn hix
          cases x with
          | sg w =>
            have i0 : idxR (pcD (.sg w)) (.int 0) = .ok (.str "signs") := by simp [pcD]
            generalize pcD (.sg w) = pd at hix i0
            exact ⟨f0, f1, f2, by simp [hnn, hix, i0, ne_sc]⟩
          | cp b k =>
            have i0 : idxR (pcD (.cp b k)) (.int 0) = .ok (.str "copy") := by simp [pcD]
            have i1 : idxR (pcD (.cp b k)) (.int 1) = .ok (.int b) := by simp [pcD]
            have i2 : idxR (pcD (.cp b k)) (.int 2) = .ok (.int k) := by simp [pcD]
            generalize pcD (.cp b k) = pd at hix i0 i1 i2
            by_cases hbk : (b : Int) + (k : Int) < n
            · have : u = 0 ∨ u = 1 := by omega
              rcases this with rfl | rfl
              · have ii : idxR (.lst [.int f0, .int ((b : Int) + (k : Int))]) (.int 0) = .ok (.int f0) := ix_lst (i := 0) rfl
                exact ⟨f0, f1, f2, by simp [hnn, hix, i0, i1, i2, hbk, eu, ii]⟩
              · have ii : idxR (.lst [.int f0, .int ((b : Int) + (k : Int))]) (.int 1) = .ok (.int ((b : Int) + (k : Int))) := ix_lst (i := 1) rfl
                exact ⟨(b : Int) + (k : Int), by omega, hbk, by simp [hnn, hix, i0, i1, i2, hbk, eu, ii]⟩
            · exact ⟨f0, f1, f2, by simp [hnn, hix, i0, i1, i2, hbk]⟩
      obtain ⟨f, g1, g2, hF⟩ := first
      obtain ⟨m, em, hLP⟩ := fin' f g1 g2
      obtain ⟨fn, rfl⟩ := Int.eq_ofNat_of_zero_le g1
      rw [Int.toNat_natCast] at hLP
      have amC := s_appM (ds := ps.map pcD) (d := pcD (.cp fn m)) (by rw [List.length_map]; omega)
      rw [show ps.map pcD ++ [pcD (.cp fn m)] = (ps ++ [Pc.cp fn m]).map pcD by rw [List.map_append]; rfl] at amC
      have amC : appM (ps.map pcD) [.tup [.str "copy", .int (fn : Int), .int (m : Int)]] = .ok ((ps ++ [Pc.cp fn m]).map pcD) := amC
      refine ⟨_, _, rfl, .inl (show _ = Out.nx [some (.v (scr ns)), some (.v (.int at')), some (.v (.int n)), some (.v (.int most)), some (.own ((ps ++ [Pc.cp fn m]).map pcD)), some (.v (.int (p.length : Int))), some (.v (.int pl)), some (.v (.str t)), some (.v (.int (fn : Int)))] from ?_), ps ++ [.cp fn m], ⟨_, _, _, _, rfl⟩, ?_, fun x hx => ?_⟩
      · generalize (ps ++ [Pc.cp fn m]).map pcD = L2 at amC ⊢
        generalize ps.map pcD = L1 at amC hF ⊢
        simp only [L__law_letter_1]
        generalize (ifS (andT (lentT (cmpT neR (varD 4) (appF lstR a0))) (andT (cmpT eqR (bin2 idxR (ixO 4 (negV (cD (.int 1)))) (cD (.int 0))) (cD (.str "copy"))) (cmpT ltR (bin2 addR (bin2 idxR (ixO 4 (negV (cD (.int 1)))) (cD (.int 1))) (bin2 idxR (ixO 4 (negV (cD (.int 1)))) (cD (.int 2)))) (varD 2)))) (setS 8 (bin2 idxR (appF lstR (aC (varD 8) (aC (bin2 addR (bin2 idxR (ixO 4 (negV (cD (.int 1)))) (cD (.int 1))) (bin2 idxR (ixO 4 (negV (cD (.int 1)))) (cD (.int 2)))) a0))) (appF g__law_mixed (aC (varD 0) (aC (varD 6) (aC (cD (.int 2)) a0)))))) Out.nx) = IF at hF ⊢
        obtain ⟨v, ev⟩ : ∃ v, g__law_mixed [scr ns, .int ((pl : Int) + 2), .int ((n : Int) - (fn : Int))] = .ok (.int v) ∧ 1 + v = (m : Int) := by
          revert em
          cases g__law_mixed [scr ns, .int ((pl : Int) + 2), .int ((n : Int) - (fn : Int))] with
          | ok d =>
            cases d with
            | int v => intro em; simp at em; exact ⟨v, rfl, em⟩
            | _ => intro em; cases em
          | exc c => intro em; cases em
          | bad => intro em; cases em
        simp [m4, hpi, et, ey, hn0, hy0, ef, hF, ev.1, ev.2, amC]
      · rw [List.length_append, List.length_append]; simp; omega
      · rcases List.mem_append.mp hx with w | w
        · exact hps x w
        · rw [List.mem_singleton.mp w]; exact hLP
theorem law_letter_ok (ns : List Int) (at' n most : Nat) (hn : n ≤ 1000) (hm : most ≤ 100) (hat : at' ≤ 1000) :
    ∃ ps : List Pc, g__law_letter [scr ns, .int at', .int n, .int most] = .ok (letD ps) ∧ ps.length ≤ most ∧ ∀ x ∈ ps, LP n x := by
  obtain ⟨z, ez, z0, z1⟩ := mixed_ok ns at' (m := (most : Int) + 1) (by omega)
  have r1 := rng1_ok (j := z) (by omega)
  obtain ⟨δ', eL, ps, ⟨x5, x6, x7, x8, rfl⟩, hl, hps⟩ := law_letter_loop ns at' n most hn hm hat z z0 z1
  refine ⟨ps, ?_, by rw [List.length_range] at hl; omega, hps⟩
  unfold letD
  generalize ps.map pcD = PD at eL ⊢
  simp [g__law_letter, F__law_letter, ez, r1, eL]
theorem LP.g {n : Nat} {x : Pc} (h : LP n x) : PcG x := by
  cases x with
  | cp a m => exact h.1
  | sg w => exact ⟨h.1, by have := h.2.1; omega, h.2.2⟩
theorem LP.inn {n : Nat} {x : Pc} (h : LP n x) : PcIn n x := by
  cases x with
  | cp a m => exact h.2
  | sg w => trivial
noncomputable def cn (n : Nat) : List Nat := (Nat.toDigits 10 n).map Char.toNat
theorem num_codes (n : Nat) : numS (n : Int) = strOf (cn n) := by
  rw [← strOf_codes (numS (n : Int))]
  exact congrArg strOf (PySem.W.KIN.signs_num n)
theorem cn_digits (n : Nat) : ∀ c ∈ cn n, 48 ≤ c ∧ c ≤ 57 := fun c hc => by
  obtain ⟨ch, h1, rfl⟩ := List.mem_map.mp hc
  exact digit_range (Nat.isDigit_of_mem_toDigits (by decide) (by decide) h1)
theorem cn_len {n : Nat} (h : n < 10 ^ 100) : (cn n).length ≤ 100 := by
  unfold cn
  rw [List.length_map]
  exact (Nat.length_toDigits_le_iff (by decide) (by decide)).mpr h
theorem cn_small {n : Nat} (h : n < 10) : (cn n).length = 1 := by
  unfold cn
  rw [Nat.toDigits_of_lt_base h]; rfl
theorem cn_app {n : Nat} (h : 10 ≤ n) : cn n = cn (n / 10) ++ cn (n % 10) := by
  unfold cn
  rw [← List.map_append]
  congr 1
  have hm : n % 10 < 10 := Nat.mod_lt n (by decide)
  have t : Nat.toDigits 10 (n / 10) ++ Nat.toDigits 10 (n % 10) = Nat.toDigits 10 (10 * (n / 10) + n % 10) := Nat.toDigits_append_toDigits (by decide) (by omega) hm
  rw [Nat.div_add_mod] at t
  exact t.symm
theorem strOk_strOf {l : List Nat} (h : ∀ c ∈ l, c < 256) : PyData.strOk (strOf l) = true := by
  unfold PyData.strOk
  rw [Array.all_eq_true_iff_forall_mem]
  intro c hc
  have hc : c ∈ l := by simpa [strOf] using hc
  have := h c hc
  simp
  omega
theorem str_num {n : Nat} (h : n < 10 ^ 100) : strR [.int (n : Int)] = .ok (.str (strOf (cn n))) := by
  unfold strR
  have hl := cn_len h
  dsimp only
  rw [num_codes, if_pos]
  refine ⟨?_, by rw [len_strOf]; omega, strOk_strOf fun c hc => by have := cn_digits n c hc; omega⟩
  rw [Bool.and_eq_true, decide_eq_true_eq, decide_eq_true_eq]
  omega
theorem figures (c : Nat) (h : 48 ≤ c ∧ c ≤ 57) : inAR (.str (chr1 c)) (.str "0123456789") = .ok (.bl true) := by
  have : ∀ k : Nat, k < 10 → inSB (chr1 (48 + k)) "0123456789" = true := by decide +kernel
  have t := this (c - 48) (by omega)
  rw [show 48 + (c - 48) = c by omega] at t
  show Rs.ok (D.bl (inSB (chr1 c) "0123456789")) = _
  rw [t]

noncomputable def joinC (c : Nat) : List (List Nat) → List Nat
  | [] => []
  | [p] => p
  | p :: q :: r => p ++ c :: joinC c (q :: r)
theorem cut_first {c : Nat} : ∀ {p q x y : List Nat}, c ∉ p → c ∉ q → p ++ c :: x = q ++ c :: y → p = q ∧ x = y
  | [], [], x, y, _, _, h => ⟨rfl, by simpa using h⟩
  | [], b :: q, x, y, _, hq, h => by
    simp at h
    exact absurd h.1 (fun e => hq (by rw [e]; simp))
  | a :: p, [], x, y, hp, _, h => by
    simp at h
    exact absurd h.1.symm (fun e => hp (by rw [e]; simp))
  | a :: p, b :: q, x, y, hp, hq, h => by
    simp at h hp hq
    obtain ⟨rfl, h⟩ := h
    obtain ⟨rfl, rfl⟩ := cut_first hp.2 hq.2 h
    exact ⟨rfl, rfl⟩
theorem joinC_inj {c : Nat} : ∀ {P Q : List (List Nat)}, P ≠ [] → Q ≠ [] → (∀ p ∈ P, c ∉ p) → (∀ q ∈ Q, c ∉ q) → joinC c P = joinC c Q → P = Q
  | [], _, h, _, _, _, _ => absurd rfl h
  | _, [], _, h, _, _, _ => absurd rfl h
  | [p], [q], _, _, _, _, h => by
    have h : p = q := h
    rw [h]
  | [p], q :: q2 :: r, _, _, hp, _, h => by
    have h : p = q ++ c :: joinC c (q2 :: r) := h
    exact absurd (by rw [h]; simp) (hp p (by simp))
  | p :: p2 :: r, [q], _, _, _, hq, h => by
    have h : p ++ c :: joinC c (p2 :: r) = q := h
    exact absurd (by rw [← h]; simp) (hq q (by simp))
  | p :: p2 :: r, q :: q2 :: r2, _, _, hp, hq, h => by
    have h : p ++ c :: joinC c (p2 :: r) = q ++ c :: joinC c (q2 :: r2) := h
    obtain ⟨rfl, h'⟩ := cut_first (hp p (by simp)) (hq q (by simp)) h
    have := joinC_inj (P := p2 :: r) (Q := q2 :: r2) (by simp) (by simp) (fun x hx => hp x (List.mem_cons_of_mem _ hx)) (fun x hx => hq x (List.mem_cons_of_mem _ hx)) h'
    rw [this]
theorem join_codes (c : Nat) : ∀ (S : List Str), (Str.join ⟨#[c]⟩ S).cps.toList = joinC c (S.map fun s => s.cps.toList)
  | [] => rfl
  | [p] => rfl
  | p :: q :: r => by
    have ih := join_codes c (q :: r)
    show ((p.cps ++ #[c]) ++ (Str.join ⟨#[c]⟩ (q :: r)).cps).toList = _
    rw [Array.toList_append, Array.toList_append, ih]
    show (p.cps.toList ++ [c]) ++ _ = p.cps.toList ++ c :: _
    simp
theorem split_ne (x y : Str) : Txt.split x y ≠ [] := by
  unfold Txt.split
  split
  · simp
  · split
    · simp
    · rw [PySem.StrLaws.partsBetween_eq]
      obtain ⟨p, r, e⟩ := PySem.StrLaws.partsFrom_ne x y.length 0 (Builtin.Str.occurrences x y 0 x.length (x.length + 1))
      rw [e]
      simp
theorem split_joined {c : Nat} {P : List (List Nat)} (hne : P ≠ []) (hf : ∀ p ∈ P, c ∉ p) : Txt.split (strOf (joinC c P)) ⟨#[c]⟩ = P.map strOf := by
  have h1 := congrArg (fun s : Str => s.cps.toList) (PySem.StrLaws.join_split (strOf (joinC c P)) ⟨#[c]⟩)
  have h2 := PySem.StrLaws.split_free (strOf (joinC c P)) c
  have h3 := split_ne (strOf (joinC c P)) ⟨#[c]⟩
  generalize Txt.split (strOf (joinC c P)) ⟨#[c]⟩ = S at h1 h2 h3
  rw [join_codes, codes_strOf] at h1
  have e := joinC_inj (P := S.map fun s => s.cps.toList) (Q := P) (by simpa using h3) hne (fun p hp => by
    obtain ⟨s, hs, rfl⟩ := List.mem_map.mp hp
    exact h2 s hs) hf h1
  rw [← e, List.map_map]
  conv => lhs; rw [← List.map_id S]
  apply List.map_congr_left
  intro s _
  exact (strOf_codes s).symm
theorem split_ok {c : Nat} {P : List (List Nat)} (hne : P ≠ []) (hf : ∀ p ∈ P, c ∉ p) (hl : P.length ≤ 1000000) (hp : ∀ p ∈ P, p.length ≤ 1000000 ∧ ∀ k ∈ p, k < 256) : splitL (strOf (joinC c P)) [.str ⟨#[c]⟩] = .ok (P.map fun p => D.str (strOf p)) := by
  unfold splitL
  dsimp only
  rw [split_joined hne hf, if_pos, List.map_map]
  · rfl
  · refine ⟨rfl, by rw [List.length_map]; exact hl, ?_⟩
    rw [List.all_eq_true]
    intro s hs
    obtain ⟨p, h, rfl⟩ := List.mem_map.mp hs
    rw [Bool.and_eq_true, decide_eq_true_eq, len_strOf]
    exact ⟨(hp p h).1, strOk_strOf (hp p h).2⟩

noncomputable def sgn : List Nat := [115, 105, 103, 110, 115, 32]
noncomputable def cpy : List Nat := [99, 111, 112, 121]
theorem lit_sgn : Str.ofString "signs " = strOf sgn := by decide +kernel
theorem lit_cpy : Str.ofString "copy" = strOf cpy := by decide +kernel
theorem lit_nl : Str.ofString "\n" = strOf [10] := by decide +kernel
theorem lit_bl : Str.ofString " " = strOf [32] := by decide +kernel

theorem eqS (a b : List Nat) : eqR (.str (strOf a)) (.str (strOf b)) = .ok (.bl (decide (a = b))) := by
  rw [eq_l (show dep (.str (strOf a)) ≤ 64 by simp)]
  show Rs.ok (D.bl (strOf a == strOf b)) = _
  congr 2
  by_cases h : a = b
  · subst h; simp
  · rw [decide_eq_false h]
    refine Bool.eq_false_iff.mpr fun e => h ?_
    have := congrArg (fun s : Str => s.cps.toList) (beq_iff_eq.mp e)
    simpa [strOf] using this
theorem neS (a b : List Nat) : neR (.str (strOf a)) (.str (strOf b)) = .ok (.bl (!decide (a = b))) := by
  rw [ne_l (show dep (.str (strOf a)) ≤ 64 by simp)]
  show Rs.ok (D.bl (!(strOf a == strOf b))) = _
  congr 3
  by_cases h : a = b
  · subst h; simp
  · rw [decide_eq_false h]
    refine Bool.eq_false_iff.mpr fun e => h ?_
    have := congrArg (fun s : Str => s.cps.toList) (beq_iff_eq.mp e)
    simpa [strOf] using this
noncomputable def dig (c : Nat) : Bool := decide (48 ≤ c) && decide (c ≤ 57)
theorem fig_any (c : Nat) (h : c < 256) : inSB (chr1 c) "0123456789" = dig c := by
  have : ∀ k : Nat, k < 256 → inSB (chr1 k) "0123456789" = dig k := by decide +kernel
  exact this c h
noncomputable def isN (w : List Nat) : Bool := !w.isEmpty && (!(decide (w[0]? = some 48) && decide (1 < w.length)) && w.all dig)
theorem all_bools {α : Type} (p : α → Bool) (l : List α) : allR [.lst (l.map fun x => D.bl (p x))] = .ok (.bl (l.all p)) := by
  unfold allR
  dsimp only
  rw [boolsOf_map p]
  simp
theorem is_number_any (w : List Nat) (hl : w.length ≤ 200) (hc : ∀ c ∈ w, c < 256) : g_is_number [.str (strOf w)] = .ok (.bl (isN w)) := by
  have hlen : (strOf w).length = w.length := len_strOf _
  cases w with
  | nil => simp [g_is_number, F_is_number, hlen, isN]
  | cons c r =>
    have hit : itR (.str (strOf (c :: r))) = .ok ((c :: r).map fun c => D.str (chr1 c)) := by
      show Rs.ok (signsD (strOf (c :: r))) = _
      unfold signsD
      rw [codes_strOf]
    have c1 : compL (fun d => inAR d (.str "0123456789")) (fun _ => .ok true) ((c :: r).map fun c => D.str (chr1 c)) = .ok ((c :: r).map fun c => D.bl (dig c)) := comp_list _ (fun c => D.bl (dig c)) fun k hk => by
      show Rs.ok (D.bl (inSB (chr1 k) "0123456789")) = _
      rw [fig_any k (hc k hk)]
    have b1 := big_ok (ds := (c :: r).map fun c => D.str (chr1 c)) (es := (c :: r).map fun c => D.bl (dig c)) (by rw [List.length_map]; omega)
    have al := all_bools dig (c :: r)
    have ix : idxR (.str (strOf (c :: r))) (.int 0) = .ok (.str (strOf [c])) := ix_str (i := 0) (by rw [codes_strOf]; rfl)
    have l0 : Str.ofString "0" = strOf [48] := by decide +kernel
    have z := eqS [c] [48]
    have h3 : ¬ ((300 : Int) < ((c :: r).length : Int)) := by omega
    have h4 : ¬ (((c :: r).length : Int) = 0) := by simp; omega
    have hN : isN (c :: r) = (!(decide (c = 48) && decide (1 < (c :: r).length)) && (c :: r).all dig) := by simp [isN]
    rw [hN]
    generalize (c :: r).all dig = AD at al ⊢
    generalize (c :: r).map (fun c => D.bl (dig c)) = AL at c1 b1 al
    generalize (c :: r).map (fun c => D.str (chr1 c)) = CL at hit c1 b1
    generalize strOf (c :: r) = S at *
    generalize (c :: r).length = n at *
    have he : eqR (.int (n : Int)) (.int 0) = .ok (.bl false) := by rw [eq_l (show dep (.int (n : Int)) ≤ 64 by simp)]; show Rs.ok (D.bl (((n : Int)) == 0)) = _; rw [show ((n : Int) == 0) = false from beq_false_of_ne h4]
    by_cases h48 : c = 48
    · subst h48
      by_cases h5 : (1 : Int) < (n : Int)
      · have h5' : 1 < n := by omega
        simp [g_is_number, F_is_number, hlen, he, h3, ix, l0, z, h5, h5']
      · have h5' : ¬ 1 < n := by omega
        simp [g_is_number, F_is_number, hlen, he, h3, ix, l0, z, h5, h5', hit, c1, b1, al]
    · simp [g_is_number, F_is_number, hlen, he, h3, ix, l0, z, h48, hit, c1, b1, al]
noncomputable def valW (w : List Nat) : Nat := PySem.NumText.digitsVal w
theorem int_any {w : List Nat} (hl : w.length ≤ 200) (h : isN w = true) : intTR [.str (strOf w)] = .ok (.int (valW w : Nat)) := by
  unfold isN at h
  rw [Bool.and_eq_true, Bool.and_eq_true] at h
  obtain ⟨h1, _, h3⟩ := h
  have hx : (strOf w).cps.toList = w := codes_strOf _
  have hne : w ≠ [] := fun e => by rw [e] at h1; simp at h1
  have e := PySem.intText_digits (x := strOf w) (by
    rw [hx]
    intro c hc
    have := List.all_eq_true.mp h3 c hc
    unfold dig at this
    rw [Bool.and_eq_true, decide_eq_true_eq, decide_eq_true_eq] at this
    exact this) (by rw [hx]; exact hne) (by rw [len_strOf]; omega)
  rw [hx] at e
  unfold intTR
  dsimp only
  rw [e]
  dsimp only
  rw [if_pos (by rw [len_strOf]; omega)]
  rfl
theorem number_of_any (w : List Nat) (hl : w.length ≤ 200) (hc : ∀ c ∈ w, c < 256) : g_number_of [.str (strOf w)] = if isN w = true then .ok (.int (valW w : Nat)) else .exc "NoLines" := by
  have e1 := is_number_any w hl hc
  by_cases h : isN w = true
  · have e2 := int_any hl h
    rw [h] at e1
    rw [if_pos h]
    generalize strOf w = S at *
    simp [g_number_of, F_number_of, e1, e2]
  · rw [if_neg h]
    rw [Bool.eq_false_iff.mpr h] at e1
    generalize strOf w = S at *
    simp [g_number_of, F_number_of, e1]

theorem comp_fil {α : Type} {elt : D → Rs D} {tst : D → Rs Bool} (f g : α → D) (t : α → Bool) {xs : List α} (h1 : ∀ x ∈ xs, tst (f x) = .ok (t x)) (h2 : ∀ x ∈ xs, elt (f x) = .ok (g x)) : compL elt tst (xs.map f) = .ok ((xs.filter t).map g) := by
  induction xs with
  | nil => rfl
  | cons x xs ih =>
    have ih := ih (fun y hy => h1 y (List.mem_cons_of_mem _ hy)) fun y hy => h2 y (List.mem_cons_of_mem _ hy)
    rw [List.map_cons]
    unfold compL
    rw [h1 x (List.mem_cons_self ..), h2 x (List.mem_cons_self ..), List.filter_cons]
    cases ht : t x with
    | true => simp [ih]
    | false => simp [ih]
noncomputable def numD (w : List Nat) : D := if isN w = true then .int (valW w : Nat) else .non
theorem ne_nil_strs (l : List Nat) : neR (.lst (l.map fun c => D.str (chr1 c))) (.lst []) = .ok (.bl (!l.isEmpty)) := by
  rw [ne_r (by decide) (by rw [lay_lst]; exact layL_map (fun _ => rfl) l) (by simp)]
  cases l <;> rfl
theorem law_number_any (w : List Nat) (hl : w.length ≤ 200) (hc : ∀ c ∈ w, c < 256) : g__law_number [.str (strOf w)] = .ok (numD w) := by
  have l1 : Str.ofString "" = strOf [] := rfl
  have l0 : Str.ofString "0" = strOf [48] := by decide +kernel
  have z0 := eqS w []
  cases w with
  | nil => simp [g__law_number, F__law_number, l1, z0, numD, isN]
  | cons c r =>
    have hit : itR (.str (strOf (c :: r))) = .ok ((c :: r).map fun c => D.str (chr1 c)) := by
      show Rs.ok (signsD (strOf (c :: r))) = _
      unfold signsD
      rw [codes_strOf]
    have c1 : compL (fun d => .ok d) (fun d => ninR d (.str "0123456789") >>= fun x => truR x) ((c :: r).map fun c => D.str (chr1 c)) = .ok (((c :: r).filter fun c => !dig c).map fun c => D.str (chr1 c)) :=
      comp_fil _ _ (fun c => !dig c) (fun k hk => by
        show (Rs.ok (D.bl (!(inSB (chr1 k) "0123456789"))) >>= fun x => truR x) = _
        rw [fig_any k (hc k hk)]; rfl) fun k _ => rfl
    have b1 := big_ok (ds := (c :: r).map fun c => D.str (chr1 c)) (es := ((c :: r).filter fun c => !dig c).map fun c => D.str (chr1 c)) (by rw [List.length_map]; omega)
    have n1 := ne_nil_strs ((c :: r).filter fun c => !dig c)
    have ix : idxR (.str (strOf (c :: r))) (.int 0) = .ok (.str (strOf [c])) := ix_str (i := 0) (by rw [codes_strOf]; rfl)
    have z := eqS [c] [48]
    have z2 := neS (c :: r) [48]
    have hd : ((c :: r).filter fun c => !dig c).isEmpty = (c :: r).all dig := by
      rw [Bool.eq_iff_iff, List.isEmpty_iff, List.filter_eq_nil_iff, List.all_eq_true]
      simp
    rw [hd] at n1
    have lst0 : lstR [] = .ok (.lst []) := rfl
    by_cases hN : isN (c :: r) = true
    · have hi := int_any hl hN
      have e : numD (c :: r) = .int (valW (c :: r) : Nat) := if_pos hN
      rw [e]
      have hN' : (!(decide (c = 48) && decide (1 < (c :: r).length)) && (c :: r).all dig) = true := by simpa [isN] using hN
      rw [Bool.and_eq_true] at hN'
      rw [hN'.2] at n1
      have q : ¬ (c = 48 ∧ ¬ (c :: r) = [48]) := by
        rintro ⟨rfl, h2⟩
        have : ¬ 1 < (48 :: r).length := by
          have := hN'.1
          simp at this ⊢
          omega
        apply h2
        cases r with
        | nil => rfl
        | cons a b => simp at this
      generalize (c :: r).map (fun c => D.str (chr1 c)) = CL at hit c1 b1
      generalize ((c :: r).filter fun c => !dig c).map (fun c => D.str (chr1 c)) = FL at c1 b1 n1
      by_cases h48 : c = 48
      · have h2 : (c :: r) = [48] := Classical.byContradiction fun h2 => q ⟨h48, h2⟩
        generalize strOf (c :: r) = S at *
        simp [g__law_number, F__law_number, l1, l0, z0, hit, c1, b1, n1, ix, z, z2, h48, h2, hi, lst0]
        simp at h2
        simp [h48, h2, hi]
      · generalize strOf (c :: r) = S at *
        simp [g__law_number, F__law_number, l1, l0, z0, hit, c1, b1, n1, ix, z, h48, hi, lst0]
    · have e : numD (c :: r) = .non := if_neg hN
      rw [e]
      generalize (c :: r).map (fun c => D.str (chr1 c)) = CL at hit c1 b1
      generalize ((c :: r).filter fun c => !dig c).map (fun c => D.str (chr1 c)) = FL at c1 b1 n1
      cases hall : (c :: r).all dig with
      | false =>
        rw [hall] at n1
        generalize strOf (c :: r) = S at *
        simp [g__law_number, F__law_number, l1, z0, hit, c1, b1, n1, lst0]
      | true =>
        rw [hall] at n1
        have hN' : ¬ (!(decide (c = 48) && decide (1 < (c :: r).length)) && (c :: r).all dig) = true := by simpa [isN] using hN
        rw [hall] at hN'
        have h48 : c = 48 ∧ ¬ r = [] := by simpa using hN'
        have h48' := h48.1
        have hr := h48.2
        generalize strOf (c :: r) = S at *
        simp [g__law_number, F__law_number, l1, l0, z0, hit, c1, b1, n1, ix, z, z2, h48', hr, lst0]
noncomputable def partsC (c : Nat) (l : List Nat) : List (List Nat) := (Txt.split (strOf l) ⟨#[c]⟩).map fun s => s.cps.toList
theorem partsC_ne (c : Nat) (l : List Nat) : partsC c l ≠ [] := by
  unfold partsC
  simpa using split_ne (strOf l) ⟨#[c]⟩
theorem partsC_free (c : Nat) (l : List Nat) : ∀ p ∈ partsC c l, c ∉ p := fun p hp => by
  obtain ⟨s, hs, rfl⟩ := List.mem_map.mp hp
  exact PySem.StrLaws.split_free (strOf l) c s hs
theorem partsC_join (c : Nat) (l : List Nat) : joinC c (partsC c l) = l := by
  have h1 := congrArg (fun s : Str => s.cps.toList) (PySem.StrLaws.join_split (strOf l) ⟨#[c]⟩)
  rw [join_codes] at h1
  unfold partsC
  rw [h1, codes_strOf]
theorem mem_joinC {c : Nat} : ∀ {P : List (List Nat)} {p : List Nat}, p ∈ P → p.length ≤ (joinC c P).length ∧ ∀ k ∈ p, k ∈ joinC c P
  | [q], p, h => by rw [List.mem_singleton.mp h]; exact ⟨Nat.le_refl _, fun k hk => hk⟩
  | q :: q2 :: r, p, h => by
    have e : joinC c (q :: q2 :: r) = q ++ c :: joinC c (q2 :: r) := rfl
    rw [e]
    rcases List.mem_cons.mp h with rfl | h
    · exact ⟨by simp, fun k hk => by simp [hk]⟩
    · have := mem_joinC (c := c) h
      exact ⟨by rw [List.length_append, List.length_cons]; omega, fun k hk => by simp [this.2 k hk]⟩
theorem len_joinC {c : Nat} : ∀ (P : List (List Nat)), P.length ≤ (joinC c P).length + 1
  | [] => by simp
  | [q] => by simp
  | q :: q2 :: r => by
    have e : joinC c (q :: q2 :: r) = q ++ c :: joinC c (q2 :: r) := rfl
    have := len_joinC (c := c) (q2 :: r)
    rw [e]
    simp only [List.length_append, List.length_cons] at this ⊢
    omega
theorem split_any (c : Nat) (l : List Nat) (hl : l.length ≤ 10000) (hc : ∀ k ∈ l, k < 256) : splitL (strOf l) [.str (strOf [c])] = .ok ((partsC c l).map fun p => D.str (strOf p)) := by
  have e := partsC_join c l
  have h := split_ok (c := c) (P := partsC c l) (partsC_ne c l) (partsC_free c l) (by have := len_joinC (c := c) (partsC c l); rw [e] at this; omega) fun p hp => by
    have := mem_joinC (c := c) hp
    rw [e] at this
    exact ⟨by omega, fun k hk => hc k (this.2 k hk)⟩
  rw [e] at h
  exact h
noncomputable def valid : Pc → Bool
  | .sg w => !w.isEmpty
  | .cp _ m => decide (0 < m)
noncomputable def prow (r : List Nat) : Option Pc := if r.take 6 = sgn then some (.sg (r.drop 6)) else match partsC 32 r with
  | [a, w1, w2] => if a = cpy ∧ isN w1 = true ∧ isN w2 = true then some (.cp (valW w1) (valW w2)) else none
  | _ => none
noncomputable def lawP (r : List Nat) : D := if r.take 6 = sgn then .tup [.str "signs", .str (strOf (r.drop 6))] else match partsC 32 r with
  | [a, w1, w2] => if a = cpy then .tup [.str "copy", numD w1, numD w2] else .non
  | _ => .non
theorem start_any (r : List Nat) : Txt.startswith (strOf r) (strOf sgn) = decide (r.take 6 = sgn) := by
  unfold Txt.startswith Builtin.Str.subAt
  rw [len_strOf, len_strOf]
  have hs : sgn.length = 6 := rfl
  have ex : (strOf r).cps.extract 0 (0 + sgn.length) = (r.take 6).toArray := by
    rw [hs]
    simp [strOf]
  rw [ex]
  have e2 : ((r.take 6).toArray == (strOf sgn).cps) = decide (r.take 6 = sgn) := by
    by_cases h : r.take 6 = sgn
    · rw [h]; simp [strOf]
    · rw [decide_eq_false h]
      refine Bool.eq_false_iff.mpr fun e => h ?_
      have := congrArg Array.toList (beq_iff_eq.mp e)
      simpa [strOf] using this
  rw [e2]
  by_cases h : r.take 6 = sgn
  · have := congrArg List.length h
    rw [List.length_take, hs] at this
    rw [decide_eq_true h]
    simp [hs]
    omega
  · rw [decide_eq_false h]; simp
theorem three {α : Type} {l : List α} (h : l.length = 3) : ∃ a b c, l = [a, b, c] := by
  match l, h with
  | [a, b, c], _ => exact ⟨a, b, c, rfl⟩
theorem ne_len (n : Nat) : neR (.int (n : Int)) (.int 3) = .ok (.bl (!decide (n = 3))) := by
  rw [ne_l (show dep (.int (n : Int)) ≤ 64 by simp)]
  show Rs.ok (D.bl (!((n : Int) == 3))) = _
  congr 3
  by_cases h : n = 3
  · subst h; rfl
  · rw [decide_eq_false h]; exact beq_false_of_ne (by omega)
theorem parts_small {r : List Nat} (hl : r.length ≤ 200) (hc : ∀ k ∈ r, k < 256) : ∀ p ∈ partsC 32 r, p.length ≤ 200 ∧ ∀ k ∈ p, k < 256 := fun p hp => by
  have := mem_joinC (c := 32) hp
  rw [partsC_join] at this
  exact ⟨by omega, fun k hk => hc k (this.2 k hk)⟩
theorem piece_of_any (r : List Nat) (hl : r.length ≤ 200) (hc : ∀ k ∈ r, k < 256) : g_piece_of [.str (strOf r)] = match prow r with | some x => .ok (pcD x) | none => .exc "NoLines" := by
  have st := start_any r
  have sp := split_any 32 r (by omega) hc
  have ct : cutT (strOf r) (some (((strOf sgn).length : Nat) : Int)) none = strOf (r.drop 6) := by rw [cutT_from, codes_strOf, len_strOf]; rfl
  unfold prow
  by_cases h : r.take 6 = sgn
  · rw [if_pos h]
    rw [decide_eq_true h] at st
    show _ = Rs.ok (D.tup [.str "signs", .str (strOf (r.drop 6))])
    generalize strOf (r.drop 6) = R6 at *
    generalize strOf r = S at *
    simp [g_piece_of, F_piece_of, lit_sgn, st, ct]
  · rw [if_neg h]
    rw [decide_eq_false h] at st
    have ps := parts_small hl hc
    by_cases h3 : (partsC 32 r).length = 3
    · obtain ⟨a, w1, w2, e⟩ := three h3
      rw [e] at sp ps ⊢
      have n1 := number_of_any w1 (ps w1 (by simp)).1 (ps w1 (by simp)).2
      have n2 := number_of_any w2 (ps w2 (by simp)).1 (ps w2 (by simp)).2
      have x0 : ∀ a b c : D, idxR (.lst [a, b, c]) (.int 0) = .ok a := fun a b c => ix_lst (i := 0) rfl
      have x1 : ∀ a b c : D, idxR (.lst [a, b, c]) (.int 1) = .ok b := fun a b c => ix_lst (i := 1) rfl
      have x2 : ∀ a b c : D, idxR (.lst [a, b, c]) (.int 2) = .ok c := fun a b c => ix_lst (i := 2) rfl
      have e3 : neR (.int 3) (.int 3) = .ok (.bl false) := ne_len 3
      have ec := neS a cpy
      have sp : splitL (strOf r) [.str (strOf [32])] = .ok [.str (strOf a), .str (strOf w1), .str (strOf w2)] := sp
      dsimp only
      by_cases ha : a = cpy
      · subst ha
        by_cases h1 : isN w1 = true
        · rw [if_pos h1] at n1
          by_cases h2 : isN w2 = true
          · rw [if_pos h2] at n2
            rw [if_pos ⟨rfl, h1, h2⟩]
            show _ = Rs.ok (D.tup [.str "copy", .int (valW w1 : Nat), .int (valW w2 : Nat)])
            generalize strOf r = S at *
            generalize strOf w1 = S1 at *
            generalize strOf w2 = S2 at *
            simp [g_piece_of, F_piece_of, lit_sgn, lit_bl, lit_cpy, st, sp, x0, x1, x2, ec, n1, n2]
          · rw [if_neg h2] at n2
            rw [if_neg fun q => h2 q.2.2]
            generalize strOf r = S at *
            generalize strOf w1 = S1 at *
            generalize strOf w2 = S2 at *
            simp [g_piece_of, F_piece_of, lit_sgn, lit_bl, lit_cpy, st, sp, x0, x1, x2, ec, n1, n2]
        · rw [if_neg h1] at n1
          rw [if_neg fun q => h1 q.2.1]
          generalize strOf r = S at *
          generalize strOf w1 = S1 at *
          generalize strOf w2 = S2 at *
          simp [g_piece_of, F_piece_of, lit_sgn, lit_bl, lit_cpy, st, sp, x0, x1, x2, ec, n1]
      · rw [if_neg fun q => ha q.1]
        rw [decide_eq_false ha] at ec
        generalize strOf r = S at *
        generalize strOf w1 = S1 at *
        generalize strOf w2 = S2 at *
        generalize strOf a = SA at *
        simp [g_piece_of, F_piece_of, lit_sgn, lit_bl, lit_cpy, st, sp, x0, ec]
    · have hlen : ((partsC 32 r).map fun p => D.str (strOf p)).length = (partsC 32 r).length := by simp
      have e3 := ne_len (partsC 32 r).length
      rw [decide_eq_false h3] at e3
      rw [← hlen] at e3
      have hno : (match partsC 32 r with
          | [a, w1, w2] => if a = cpy ∧ isN w1 = true ∧ isN w2 = true then some (Pc.cp (valW w1) (valW w2)) else none
          | _ => none) = none := by
        split
        · rename_i hh; rw [hh] at h3; exact absurd rfl h3
        · rfl
      rw [hno]
      generalize (partsC 32 r).map (fun p => D.str (strOf p)) = PL at *
      generalize strOf r = S at *
      simp [g_piece_of, F_piece_of, lit_sgn, lit_bl, st, sp, e3]
theorem law_piece_any (r : List Nat) (hl : r.length ≤ 200) (hc : ∀ k ∈ r, k < 256) : g__law_piece [.str (strOf r)] = .ok (lawP r) := by
  have sp := split_any 32 r (by omega) hc
  have c1 : cutT (strOf r) none (some 6) = strOf (r.take 6) := by
    have := cutT_to (strOf r) 6
    rw [codes_strOf] at this
    exact this
  have c2 : cutT (strOf r) (some 6) none = strOf (r.drop 6) := by
    have := cutT_from (strOf r) 6
    rw [codes_strOf] at this
    exact this
  have es := eqS (r.take 6) sgn
  unfold lawP
  by_cases h : r.take 6 = sgn
  · rw [if_pos h]
    rw [decide_eq_true h] at es
    generalize strOf (r.drop 6) = R6 at *
    generalize strOf (r.take 6) = R5 at *
    generalize strOf r = S at *
    simp [g__law_piece, F__law_piece, lit_sgn, c1, c2, es]
  · rw [if_neg h]
    rw [decide_eq_false h] at es
    have ps := parts_small hl hc
    by_cases h3 : (partsC 32 r).length = 3
    · obtain ⟨a, w1, w2, e⟩ := three h3
      rw [e] at sp ps ⊢
      have n1 := law_number_any w1 (ps w1 (by simp)).1 (ps w1 (by simp)).2
      have n2 := law_number_any w2 (ps w2 (by simp)).1 (ps w2 (by simp)).2
      have x0 : ∀ a b c : D, idxR (.lst [a, b, c]) (.int 0) = .ok a := fun a b c => ix_lst (i := 0) rfl
      have x1 : ∀ a b c : D, idxR (.lst [a, b, c]) (.int 1) = .ok b := fun a b c => ix_lst (i := 1) rfl
      have x2 : ∀ a b c : D, idxR (.lst [a, b, c]) (.int 2) = .ok c := fun a b c => ix_lst (i := 2) rfl
      have e3 : neR (.int 3) (.int 3) = .ok (.bl false) := ne_len 3
      have ec := neS a cpy
      have sp : splitL (strOf r) [.str (strOf [32])] = .ok [.str (strOf a), .str (strOf w1), .str (strOf w2)] := sp
      dsimp only
      by_cases ha : a = cpy
      · subst ha
        rw [if_pos rfl]
        generalize numD w1 = N1 at *
        generalize numD w2 = N2 at *
        generalize strOf (r.take 6) = R5 at *
        generalize strOf r = S at *
        generalize strOf w1 = S1 at *
        generalize strOf w2 = S2 at *
        simp [g__law_piece, F__law_piece, lit_sgn, lit_bl, lit_cpy, c1, es, sp, x0, x1, x2, ec, n1, n2]
      · rw [if_neg ha]
        rw [decide_eq_false ha] at ec
        generalize strOf (r.take 6) = R5 at *
        generalize strOf r = S at *
        generalize strOf w1 = S1 at *
        generalize strOf w2 = S2 at *
        generalize strOf a = SA at *
        simp [g__law_piece, F__law_piece, lit_sgn, lit_bl, lit_cpy, c1, es, sp, x0, ec]
    · have hlen : ((partsC 32 r).map fun p => D.str (strOf p)).length = (partsC 32 r).length := by simp
      have e3 := ne_len (partsC 32 r).length
      rw [decide_eq_false h3] at e3
      rw [← hlen] at e3
      have hno : (match partsC 32 r with
          | [a, w1, w2] => if a = cpy then D.tup [.str "copy", numD w1, numD w2] else .non
          | _ => .non) = .non := by
        split
        · rename_i hh; rw [hh] at h3; exact absurd rfl h3
        · rfl
      rw [hno]
      generalize (partsC 32 r).map (fun p => D.str (strOf p)) = PL at *
      generalize strOf (r.take 6) = R5 at *
      generalize strOf r = S at *
      simp [g__law_piece, F__law_piece, lit_sgn, lit_bl, c1, es, sp, e3]

noncomputable def PcC : Pc → Prop
  | .sg w => w.length ≤ 2000 ∧ ∀ c ∈ w, okc c
  | .cp _ _ => True
theorem is_from_any (i lo : Int) : g_is_from [.int i, .int lo] = .ok (.bl (decide (lo ≤ i))) := by
  simp [g_is_from, F_is_from, g_is_whole, F_is_whole]
theorem is_piece_any {x : Pc} (h : PcC x) : g_is_piece [pcD x] = .ok (.bl (valid x)) := by
  cases x with
  | cp p m =>
    have e0 := is_copy_cp p m
    have e1 := is_from_any (p : Int) 0
    have e2 := is_from_any (m : Int) 1
    have q0 : decide ((0 : Int) ≤ (p : Int)) = true := decide_eq_true (by omega)
    have q1 : decide ((1 : Int) ≤ (m : Int)) = decide (0 < m) := by
      by_cases hm : 0 < m
      · rw [decide_eq_true hm, decide_eq_true (by omega)]
      · rw [decide_eq_false hm, decide_eq_false (by omega)]
    rw [q0] at e1
    rw [q1] at e2
    show _ = Rs.ok (D.bl (decide (0 < m)))
    generalize decide (0 < m) = V at e2 ⊢
    unfold pcD at e0 ⊢
    cases V <;> simp [g_is_piece, F_is_piece, e0, e1, e2]
  | sg w =>
    obtain ⟨h2, h3⟩ := h
    have e0 : g_is_copy [.tup [.str "signs", .str (strOf w)]] = .ok (.bl false) := is_copy_sg w
    have e1 := is_text_ok (good_strOf h2 h3)
    have hl : (strOf w).length = w.length := len_strOf w
    have q : (decide ((0 : Int) < ((strOf w).length : Int))) = valid (.sg w) := by
      rw [hl]
      cases w with
      | nil => rfl
      | cons a r => show decide _ = true; exact decide_eq_true (by simp)
    show g_is_piece [.tup [.str "signs", .str (strOf w)]] = _
    rw [← q]
    generalize strOf w = s at e0 e1 ⊢
    simp [g_is_piece, F_is_piece, e0, e1]
theorem is_letter_any {ps : List Pc} (hl : ps.length ≤ 2000) (h : ∀ x ∈ ps, PcC x) : g_is_letter [letD ps] = .ok (.bl (ps.all valid)) := by
  have h1 : ¬ ((2000 : Int) < (ps.length : Int)) := by omega
  have e1 : compL (fun d => g_is_piece [d]) (fun _ => .ok true) (ps.map pcD) = .ok (ps.map fun x => D.bl (valid x)) := comp_list pcD (fun x => D.bl (valid x)) fun x hx => is_piece_any (h x hx)
  have e2 : bigR (ps.map pcD) (.ok (ps.map fun x => D.bl (valid x))) = .ok (.lst (ps.map fun x => D.bl (valid x))) := big_ok (by rw [List.length_map]; omega)
  have e3 := all_bools valid ps
  have e4 : (ps.map pcD).length = ps.length := List.length_map ..
  generalize ps.all valid = AV at e3 ⊢
  generalize (ps.map fun x => D.bl (valid x)) = LB at e1 e2 e3
  unfold letD
  generalize ps.map pcD = LP at e1 e2 e4 ⊢
  simp [g_is_letter, F_is_letter, e4, h1, e1, e2, e3]
noncomputable def vrow (r : List Nat) : Bool := match prow r with
  | some x => valid x
  | none => false
theorem whole_int (i : Int) : g__law_whole [.int i] = .ok (.bl true) := by
  simp [g__law_whole, F__law_whole]
theorem whole_non : g__law_whole [.non] = .ok (.bl false) := by
  simp [g__law_whole, F__law_whole]
theorem law_piece_signs (w : List Nat) : g__law_is_piece [.tup [.str "signs", .str (strOf w)]] = .ok (.bl (!w.isEmpty)) := by
  have z := neS w []
  have l1 : Str.ofString "" = strOf [] := rfl
  have q : (!decide (w = [])) = !w.isEmpty := by cases w <;> rfl
  rw [q] at z
  generalize (!w.isEmpty) = W at z ⊢
  generalize strOf w = S at z ⊢
  simp [g__law_is_piece, F__law_is_piece, l1, z]
theorem law_piece_copy (w1 w2 : List Nat) : g__law_is_piece [.tup [.str "copy", numD w1, numD w2]] = .ok (.bl (isN w1 && (isN w2 && decide (0 < valW w2)))) := by
  unfold numD
  cases h1 : isN w1 with
  | false => simp [g__law_is_piece, F__law_is_piece, whole_non, ne_cs]
  | true =>
    have g0 : (0 : Int) ≤ (valW w1 : Nat) := by omega
    cases h2 : isN w2 with
    | false => simp [g__law_is_piece, F__law_is_piece, whole_non, whole_int, ne_cs, g0]
    | true =>
      by_cases hv : 0 < valW w2
      · have hv' : (0 : Int) < (valW w2 : Nat) := by omega
        simp [g__law_is_piece, F__law_is_piece, whole_int, ne_cs, g0, hv, hv']
      · have hv' : ¬ (0 : Int) < (valW w2 : Nat) := by omega
        simp [g__law_is_piece, F__law_is_piece, whole_int, ne_cs, g0, hv, hv']
theorem law_piece_non : g__law_is_piece [.non] = .ok (.bl false) := by
  have h : isiN "NoneType" "tuple" = false := by decide +kernel
  simp [g__law_is_piece, F__law_is_piece, h]
theorem law_is_row (r : List Nat) : g__law_is_piece [lawP r] = .ok (.bl (vrow r)) := by
  unfold lawP vrow prow
  by_cases h : r.take 6 = sgn
  · rw [if_pos h, if_pos h]
    exact law_piece_signs _
  · rw [if_neg h, if_neg h]
    split
    · rename_i a w1 w2 hh
      by_cases ha : a = cpy
      · rw [if_pos ha, law_piece_copy]
        by_cases h1 : isN w1 = true
        · by_cases h2 : isN w2 = true
          · rw [if_pos ⟨ha, h1, h2⟩, h1, h2]; rfl
          · rw [if_neg fun q => h2 q.2.2, Bool.eq_false_iff.mpr h2]; simp
        · rw [if_neg fun q => h1 q.2.1, Bool.eq_false_iff.mpr h1]; simp
      · rw [if_neg ha, if_neg fun q => ha q.1]; exact law_piece_non
    · exact law_piece_non
theorem law_row_eq {r : List Nat} {x : Pc} (h : prow r = some x) : lawP r = pcD x := by
  unfold prow at h
  unfold lawP
  by_cases hs : r.take 6 = sgn
  · rw [if_pos hs] at h ⊢
    cases h; rfl
  · rw [if_neg hs] at h ⊢
    split at h
    · rename_i a w1 w2 hh
      split at h
      · rename_i hq
        cases h
        rw [if_pos hq.1]
        unfold numD
        rw [if_pos hq.2.1, if_pos hq.2.2]
        rfl
      · cases h
    · cases h
theorem lay_row (r : List Nat) : lay (lawP r) = true := by
  unfold lawP
  split
  · rfl
  · split
    · split
      · unfold numD; split <;> split <;> rfl
      · rfl
    · rfl
theorem row_good {r : List Nat} {x : Pc} (hl : r.length ≤ 2000) (hc : ∀ k ∈ r, okc k) (h : prow r = some x) : PcC x := by
  unfold prow at h
  split at h
  · cases h
    exact ⟨by rw [List.length_drop]; omega, fun c hcc => hc c (List.mem_of_mem_drop hcc)⟩
  · split at h
    · split at h
      · cases h; trivial
      · cases h
    · cases h
theorem eq_nil_rows (l : List (List Nat)) : eqR (.lst (l.map lawP)) (.lst []) = .ok (.bl l.isEmpty) := by
  rw [eq_r (by decide) (by rw [lay_lst]; exact layL_map lay_row l) (by simp)]
  cases l <;> rfl
theorem law_letter_rows (Q : List (List Nat)) (hl : Q.length ≤ 10000) : g__law_is_letter [.lst (Q.map lawP)] = .ok (.bl (Q.all vrow)) := by
  have c1 : compL (fun d => .ok d) (fun d => g__law_is_piece [d] >>= fun x => truR x >>= fun b => .ok (!b)) (Q.map lawP) = .ok ((Q.filter fun r => !vrow r).map lawP) :=
    comp_fil lawP lawP (fun r => !vrow r) (fun r _ => by rw [law_is_row]; rfl) fun r _ => rfl
  have b1 := big_ok (ds := Q.map lawP) (es := (Q.filter fun r => !vrow r).map lawP) (by rw [List.length_map]; omega)
  have z := eq_nil_rows (Q.filter fun r => !vrow r)
  have hd : (Q.filter fun r => !vrow r).isEmpty = Q.all vrow := by
    rw [Bool.eq_iff_iff, List.isEmpty_iff, List.filter_eq_nil_iff, List.all_eq_true]
    simp
  rw [hd] at z
  have lst0 : lstR [] = .ok (.lst []) := rfl
  generalize Q.all vrow = AV at z ⊢
  generalize (Q.filter fun r => !vrow r).map lawP = FL at c1 b1 z
  generalize Q.map lawP = QL at c1 b1 ⊢
  simp [g__law_is_letter, F__law_is_letter, c1, b1, z, lst0]

noncomputable def OkL (l : List Nat) : Prop := l.length ≤ 200 ∧ ∀ c ∈ l, c = 10 ∨ okc c
theorem OkL.lt {l : List Nat} (h : OkL l) : ∀ c ∈ l, c < 256 := fun c hc => by
  rcases h.2 c hc with rfl | h
  · omega
  · unfold okc at h; omega
theorem join_snoc {c : Nat} : ∀ (Q : List (List Nat)) (z : List Nat), Q ≠ [] → joinC c (Q ++ [z]) = joinC c Q ++ c :: z
  | [q], z, _ => rfl
  | q :: q2 :: r, z, _ => by
    have ih := join_snoc (c := c) (q2 :: r) z (by simp)
    show q ++ c :: joinC c ((q2 :: r) ++ [z]) = (q ++ c :: joinC c (q2 :: r)) ++ c :: z
    rw [ih]; simp
theorem cut_m1 {α : Type} {xs : List α} (h : xs ≠ []) : cutL xs none (some (-1)) = xs.dropLast := by
  unfold cutL
  have hl : 0 < xs.length := List.length_pos_iff.mpr h
  have e : HT.sIx xs.length xs.length (some (-1)) = xs.length - 1 := by
    show (if (-1 : Int) < 0 then ((-1 : Int) + (xs.length : Int)).toNat else min (-1 : Int).toNat xs.length) = _
    rw [if_pos (by decide)]; omega
  rw [e, HT.sIx_none, List.drop_zero, Nat.sub_zero, List.dropLast_eq_take]
theorem idx_m1 (l : List Nat) (c : Nat) : idxR (.str (strOf (l ++ [c]))) (.int (-1)) = .ok (.str (strOf [c])) := by
  show (match atI (strOf (l ++ [c])).cps.toList (-1) with | some c => Rs.ok (D.str (chr1 c)) | none => .bad) = _
  rw [codes_strOf]
  have e : atI (l ++ [c]) (-1) = some c := by
    unfold L2.atI L2.ixN
    rw [if_neg (by omega), if_pos (by simp; omega)]
    have : ((-1 : Int) + ((l ++ [c]).length : Int)).toNat = l.length := by rw [List.length_append, List.length_singleton]; omega
    rw [this]
    simp
  rw [e]; rfl
theorem parts_two (l : List Nat) : ∃ Q z, partsC 10 l = Q ++ [z] := ⟨(partsC 10 l).dropLast, (partsC 10 l).getLast (partsC_ne 10 l), (List.dropLast_concat_getLast _).symm⟩
theorem rows_ok {l : List Nat} (h : OkL l) {Q : List (List Nat)} {z : List Nat} (e : partsC 10 l = Q ++ [z]) : ∀ r ∈ Q, r.length ≤ 200 ∧ ∀ k ∈ r, okc k := fun r hr => by
  have hm : r ∈ partsC 10 l := by rw [e]; simp [hr]
  have h1 := mem_joinC (c := 10) hm
  rw [partsC_join] at h1
  refine ⟨by have := h.1; omega, fun k hk => ?_⟩
  rcases h.2 k (h1.2 k hk) with rfl | q
  · exact (partsC_free 10 l r hm hk).elim
  · exact q
theorem rows_few {l : List Nat} (h : OkL l) {Q : List (List Nat)} {z : List Nat} (e : partsC 10 l = Q ++ [z]) : Q.length ≤ 200 := by
  have := len_joinC (c := 10) (partsC 10 l)
  rw [partsC_join, e] at this
  have := h.1
  simp at *
  omega
theorem okc_lt {c : Nat} (h : okc c) : c < 256 := by unfold okc at h; omega
theorem rows_read : ∀ {Q : List (List Nat)}, (∀ r ∈ Q, r.length ≤ 200 ∧ ∀ k ∈ r, okc k) →
    (∃ xs : List Pc, compX (fun d => g_piece_of [d]) (Q.map fun r => D.str (strOf r)) = .ok (xs.map pcD) ∧ Q.map lawP = xs.map pcD ∧ xs.length = Q.length ∧ (∀ x ∈ xs, PcC x) ∧ Q.all vrow = xs.all valid)
    ∨ (compX (fun d => g_piece_of [d]) (Q.map fun r => D.str (strOf r)) = .exc "NoLines" ∧ Q.all vrow = false)
  | [], _ => .inl ⟨[], rfl, rfl, rfl, fun _ h => (List.not_mem_nil h).elim, rfl⟩
  | r :: Q, h => by
    obtain ⟨h1, h2⟩ := h r (List.mem_cons_self ..)
    have ih := rows_read (Q := Q) fun r hr => h r (List.mem_cons_of_mem _ hr)
    have e := piece_of_any r h1 fun k hk => okc_lt (h2 k hk)
    rw [List.map_cons]
    unfold compX
    cases hp : prow r with
    | none =>
      rw [hp] at e
      refine .inr ⟨by rw [e, exc_bind], ?_⟩
      have : vrow r = false := by unfold vrow; rw [hp]
      rw [List.all_cons, this]; rfl
    | some x =>
      rw [hp] at e
      have hv : vrow r = valid x := by unfold vrow; rw [hp]
      rcases ih with ⟨xs, i1, i2, i3, i4, i5⟩ | ⟨i1, i2⟩
      · refine .inl ⟨x :: xs, by rw [e, ok_bind, i1, ok_bind]; rfl, ?_, ?_, ?_, ?_⟩
        · rw [List.map_cons, List.map_cons, law_row_eq hp, i2]
        · rw [List.length_cons, List.length_cons, i3]
        · intro y hy
          rcases List.mem_cons.mp hy with rfl | hy
          · exact row_good (by omega) h2 hp
          · exact i4 y hy
        · rw [List.all_cons, List.all_cons, i5, hv]
      · exact .inr ⟨by rw [e, ok_bind, i1, exc_bind], by rw [List.all_cons, i2, Bool.and_false]⟩
theorem pop_rows (Q : List (List Nat)) (z : List Nat) : popT (Str.ofString "") ((Q ++ [z]).map fun r => D.str (strOf r)) = some (!decide (z = []), Q.map fun r => D.str (strOf r)) := by
  unfold popT
  rw [List.map_append, List.map_singleton, List.getLast?_concat, List.dropLast_concat]
  have : (strOf z == Str.ofString "") = decide (z = []) := by
    cases z with
    | nil => rfl
    | cons a r =>
      rw [decide_eq_false (by simp)]
      refine Bool.eq_false_iff.mpr fun e => ?_
      have e := congrArg (fun s : Str => s.cps.toList) (beq_iff_eq.mp e)
      have e : (strOf (a :: r)).cps.toList = [] := e
      rw [codes_strOf] at e
      cases e
  dsimp only
  rw [this]
theorem read_any {l : List Nat} (h : OkL l) {Q : List (List Nat)} {z : List Nat} (e : partsC 10 l = Q ++ [z]) :
    (g_read [.str (strOf l)] = .exc "NoLines" ∧ (z ≠ [] ∨ Q.all vrow = false)) ∨ (z = [] ∧ Q.all vrow = true ∧ g_read [.str (strOf l)] = .ok (.lst (Q.map lawP)) ∧ ∃ xs : List Pc, Q.map lawP = xs.map pcD) := by
  have sp := split_any 10 l (by have := h.1; omega) h.lt
  rw [e] at sp
  have pp := pop_rows Q z
  by_cases hz : z = []
  · rw [decide_eq_true hz] at pp
    have rr := rows_read (rows_ok h e)
    have hq := rows_few h e
    have b1 := s_bigX (ds := Q.map fun r => D.str (strOf r)) (by rw [List.length_map]; omega)
    rcases rr with ⟨xs, c1, c2, c3, c4, c5⟩ | ⟨c1, c2⟩
    · have il := is_letter_any (ps := xs) (by omega) c4
      rw [← c5] at il
      unfold letD at il
      rw [← c2] at il c1
      cases hv : Q.all vrow with
      | true =>
        refine .inr ⟨hz, rfl, ?_, xs, c2⟩
        rw [hv] at il
        generalize Q.map lawP = QL at *
        generalize Q.map (fun r => D.str (strOf r)) = QS at *
        generalize (Q ++ [z]).map (fun r => D.str (strOf r)) = QZ at *
        generalize strOf l = S at *
        simp [g_read, F_read, lit_nl, sp, pp, c1, b1, il]
      | false =>
        refine .inl ⟨?_, .inr rfl⟩
        rw [hv] at il
        generalize Q.map lawP = QL at *
        generalize Q.map (fun r => D.str (strOf r)) = QS at *
        generalize (Q ++ [z]).map (fun r => D.str (strOf r)) = QZ at *
        generalize strOf l = S at *
        simp [g_read, F_read, lit_nl, sp, pp, c1, b1, il]
    · refine .inl ⟨?_, .inr c2⟩
      generalize Q.map (fun r => D.str (strOf r)) = QS at *
      generalize (Q ++ [z]).map (fun r => D.str (strOf r)) = QZ at *
      generalize strOf l = S at *
      simp [g_read, F_read, lit_nl, sp, pp, c1, b1]
  · refine .inl ⟨?_, .inl hz⟩
    rw [decide_eq_false hz] at pp
    generalize Q.map (fun r => D.str (strOf r)) = QS at *
    generalize (Q ++ [z]).map (fun r => D.str (strOf r)) = QZ at *
    generalize strOf l = S at *
    simp [g_read, F_read, lit_nl, sp, pp]
theorem due_no {l : List Nat} (h : OkL l) {Q : List (List Nat)} {z : List Nat} (e : partsC 10 l = Q ++ [z]) (hz : z ≠ []) : g__law_due [.str (strOf l)] = .ok .non := by
  have hj := partsC_join 10 l
  have hf := partsC_free 10 l z (by rw [e]; simp)
  obtain ⟨y, c, rfl⟩ : ∃ y c, z = y ++ [c] := ⟨z.dropLast, z.getLast hz, (List.dropLast_concat_getLast hz).symm⟩
  obtain ⟨t, rfl⟩ : ∃ t, l = t ++ [c] := by
    rw [← hj, e]
    by_cases hq : Q = []
    · subst hq; exact ⟨y, rfl⟩
    · rw [join_snoc Q _ hq]; exact ⟨joinC 10 Q ++ 10 :: y, by simp⟩
  have hc : c ≠ 10 := fun q => hf (by simp [q])
  have l1 : Str.ofString "" = strOf [] := rfl
  have n1 := neS (t ++ [c]) []
  have n2 := neS [c] [10]
  rw [decide_eq_false (by simp)] at n1
  rw [decide_eq_false (by simp [hc])] at n2
  have ix := idx_m1 t c
  generalize strOf (t ++ [c]) = S at *
  simp [g__law_due, F__law_due, lit_nl, l1, n1, n2, ix]
theorem due_yes {l : List Nat} (h : OkL l) {Q : List (List Nat)} (e : partsC 10 l = Q ++ [[]]) : g__law_due [.str (strOf l)] = .ok (if Q.all vrow = true then .lst (Q.map lawP) else .non) := by
  have sp := split_any 10 l (by have := h.1; omega) h.lt
  rw [e] at sp
  have hq := rows_few h e
  have ho := rows_ok h e
  have ct : cutL ((Q ++ [[]]).map fun r => D.str (strOf r)) none (some (-1)) = Q.map fun r => D.str (strOf r) := by
    rw [cut_m1 (by simp), List.map_append, List.map_singleton, List.dropLast_concat]
  have c1 : compL (fun d => g__law_piece [d]) (fun _ => .ok true) (Q.map fun r => D.str (strOf r)) = .ok (Q.map lawP) := comp_list _ lawP fun r hr => law_piece_any r (ho r hr).1 fun k hk => okc_lt ((ho r hr).2 k hk)
  have b1 := big_ok (ds := Q.map fun r => D.str (strOf r)) (es := Q.map lawP) (by rw [List.length_map]; omega)
  have il := law_letter_rows Q (by omega)
  have l1 : Str.ofString "" = strOf [] := rfl
  have key : (l = [] ∨ ∃ t, l = t ++ [10]) := by
    have hj := partsC_join 10 l
    rw [← hj, e]
    by_cases hq : Q = []
    · subst hq; exact .inl rfl
    · rw [join_snoc Q _ hq]; exact .inr ⟨_, rfl⟩
  have test : (neR (.str (strOf l)) (.str (strOf [])) = .ok (.bl false)) ∨ (neR (.str (strOf l)) (.str (strOf [])) = .ok (.bl true) ∧ idxR (.str (strOf l)) (.int (-1)) = .ok (.str (strOf [10]))) := by
    rcases key with rfl | ⟨t, rfl⟩
    · left; rw [neS]; rfl
    · right; exact ⟨by rw [neS, decide_eq_false (by simp)]; rfl, idx_m1 t 10⟩
  have n2 : neR (.str (strOf [10])) (.str (strOf [10])) = .ok (.bl false) := by rw [neS]; rfl
  generalize Q.all vrow = AV at *
  generalize Q.map lawP = QL at *
  generalize Q.map (fun r => D.str (strOf r)) = QS at *
  generalize (Q ++ [[]]).map (fun r => D.str (strOf r)) = QZ at *
  generalize strOf l = S at *
  rcases test with n1 | ⟨n1, ix⟩
  · cases AV <;> simp [g__law_due, F__law_due, lit_nl, l1, n1, sp, ct, c1, b1, il]
  · cases AV <;> simp [g__law_due, F__law_due, lit_nl, l1, n1, n2, ix, sp, ct, c1, b1, il]
theorem read_due {l : List Nat} (h : OkL l) : (g_read [.str (strOf l)] = .exc "NoLines" ∧ g__law_due [.str (strOf l)] = .ok .non) ∨ ∃ xs : List Pc, g_read [.str (strOf l)] = .ok (letD xs) ∧ g__law_due [.str (strOf l)] = .ok (letD xs) := by
  obtain ⟨Q, z, e⟩ := parts_two l
  rcases read_any h e with ⟨r1, r2⟩ | ⟨r1, r2, r3, xs, r4⟩
  · refine .inl ⟨r1, ?_⟩
    by_cases hz : z = []
    · subst hz
      have r2 := r2.resolve_left fun q => q rfl
      rw [due_yes h e, r2]; rfl
    · exact due_no h e hz
  · subst r1
    refine .inr ⟨xs, ?_, ?_⟩
    · rw [r3, r4]; rfl
    · rw [due_yes h e, r2, if_pos rfl, r4]; rfl

noncomputable def lineL : Pc → List Nat
  | .sg w => sgn ++ w
  | .cp a m => joinC 32 [cpy, cn a, cn m]
noncomputable def PcB : Pc → Prop
  | .sg w => w.length ≤ 4
  | .cp a m => a < 10 ^ 60 ∧ m < 10 ^ 60
theorem line_cp (a m : Nat) : lineL (.cp a m) = cpy ++ 32 :: (cn a ++ 32 :: cn m) := rfl
theorem small60 {n : Nat} (h : n < 10 ^ 60) : n < 10 ^ 100 := Nat.lt_trans h (by decide +kernel)
theorem line_codes {x : Pc} (hg : PcG x) : ∀ c ∈ lineL x, c ≠ 10 ∧ c < 256 := fun c hc => by
  cases x with
  | sg w =>
    rcases List.mem_append.mp hc with hc | hc
    · have : ∀ c ∈ sgn, c ≠ 10 ∧ c < 256 := by decide
      exact this c hc
    · have := hg.2.2 c hc
      unfold okc at this
      omega
  | cp a m =>
    rw [line_cp] at hc
    have h0 : ∀ c ∈ cpy, c ≠ 10 ∧ c < 256 := by decide
    simp only [List.mem_append, List.mem_cons] at hc
    rcases hc with hc | rfl | hc | rfl | hc
    · exact h0 c hc
    · decide
    · have := cn_digits a c hc; omega
    · decide
    · have := cn_digits m c hc; omega
theorem adds {a b : List Nat} (h : a.length + b.length ≤ 1000000) : addR (.str (strOf a)) (.str (strOf b)) = .ok (.str (strOf (a ++ b))) := by
  have hms := million
  have := s_adds (i := strOf a) (j := strOf b) (by rw [len_strOf, len_strOf]; omega)
  rw [this]
  congr 2
  show (⟨a.toArray ++ b.toArray⟩ : Str) = ⟨_⟩
  simp
noncomputable def textL (ps : List Pc) : List Nat := (ps.map fun x => lineL x ++ [10]).flatten
noncomputable def sg5 : List Nat := [115, 105, 103, 110, 115]
theorem lit_sg5 : Str.ofString "signs" = strOf sg5 := by decide +kernel
noncomputable def wordsL : Pc → List (List Nat)
  | .sg w => [sg5, w]
  | .cp a m => [cpy, cn a, cn m]
theorem words_line (x : Pc) : joinC 32 (wordsL x) = lineL x := by cases x <;> rfl
noncomputable def fldD : Pc → List D
  | .sg w => [.str (strOf sg5), .str (strOf w)]
  | .cp a m => [.str (strOf cpy), .int a, .int m]
theorem pcD_fld (x : Pc) : pcD x = .tup (fldD x) := by
  cases x with
  | sg w => show D.tup [.str (Str.ofString "signs"), .str (strOf w)] = _; rw [lit_sg5]; rfl
  | cp a m => show D.tup [.str (Str.ofString "copy"), .int a, .int m] = _; rw [lit_cpy]; rfl
theorem strR_str (y : Str) : strR [.str y] = .ok (.str y) := rfl
theorem fs2 (A B : Str) : compL (fun d => strR [d]) (fun _ => .ok true) [.str A, .str B] = .ok [.str A, .str B] := by
  simp only [compL, strR_str, ok_bind, if_true]
theorem fs3 (A B C : Str) (a m : Int) (e1 : strR [.int a] = .ok (.str B)) (e2 : strR [.int m] = .ok (.str C)) : compL (fun d => strR [d]) (fun _ => .ok true) [.str A, .int a, .int m] = .ok [.str A, .str B, .str C] := by
  simp only [compL, strR_str, e1, e2, ok_bind, if_true]
theorem fld_strs {x : Pc} (hb : PcB x) : compL (fun d => strR [d]) (fun _ => .ok true) (fldD x) = .ok ((wordsL x).map fun w => D.str (strOf w)) := by
  cases x with
  | sg w => exact fs2 _ _
  | cp a m => exact fs3 _ _ _ _ _ (str_num (small60 hb.1)) (str_num (small60 hb.2))
theorem join_bl {Y : List (List Nat)} (h1 : (Y.map List.length).sum + Y.length ≤ 1000) (h2 : (joinC 32 Y).length ≤ 1000) (h3 : ∀ c ∈ joinC 32 Y, c < 256) : joinSR (strOf [32]) [.lst (Y.map fun w => D.str (strOf w))] = .ok (.str (strOf (joinC 32 Y))) := by
  have hs : strsOf (Y.map fun w => D.str (strOf w)) = some (Y.map strOf) := strsOf_map ..
  have hj : Str.join (strOf [32]) (Y.map strOf) = strOf (joinC 32 Y) := by
    have := join_codes 32 (Y.map strOf)
    rw [List.map_map] at this
    have e : Y.map ((fun s : Str => s.cps.toList) ∘ strOf) = Y := by
      exact (List.map_congr_left (g := id) fun w _ => codes_strOf w).trans (List.map_id _)
    rw [e] at this
    have e2 : Str.join (strOf [32]) (Y.map strOf) = Str.join ⟨#[32]⟩ (Y.map strOf) := rfl
    rw [e2, ← strOf_codes (Str.join _ _), this]
  have hl : ((Y.map strOf).map (fun s : Str => s.length)).sum = (Y.map List.length).sum := by
    rw [List.map_map]
    exact congrArg List.sum (List.map_congr_left fun w _ => len_strOf w)
  unfold joinSR
  dsimp only
  rw [hs]
  dsimp only
  rw [hj, hl, if_pos ⟨by rw [List.length_map, len_strOf]; simp; omega, by rw [len_strOf]; omega, strOk_strOf h3⟩]
noncomputable def PcS : Pc → Prop
  | .sg w => w.length ≤ 4
  | .cp a m => a < 100 ∧ m < 100
theorem cn_two {n : Nat} (h : n < 100) : (cn n).length ≤ 2 := by
  by_cases h1 : n < 10
  · rw [cn_small h1]; omega
  · rw [cn_app (by omega), List.length_append, cn_small (by omega), cn_small (by omega)]; omega
theorem PcS.b {x : Pc} (h : PcS x) : PcB x := by
  cases x with
  | sg w => exact h
  | cp a m => exact ⟨Nat.lt_trans h.1 (by decide +kernel), Nat.lt_trans h.2 (by decide +kernel)⟩
theorem line_short {x : Pc} (h : PcS x) : (lineL x).length ≤ 10 := by
  cases x with
  | sg w => have h : w.length ≤ 4 := h; show (sgn ++ w).length ≤ 10; rw [List.length_append]; simp [sgn]; omega
  | cp a m =>
    have h1 := cn_two h.1
    have h2 := cn_two h.2
    rw [line_cp]; simp [cpy]; omega
theorem words_sum {x : Pc} (h : PcS x) : ((wordsL x).map List.length).sum + (wordsL x).length ≤ 1000 := by
  cases x with
  | sg w => have h : w.length ≤ 4 := h; simp [wordsL, sg5]; omega
  | cp a m =>
    have h1 := cn_two h.1
    have h2 := cn_two h.2
    simp [wordsL, cpy]; omega
theorem words_few (x : Pc) : (fldD x).length ≤ 1000 := by cases x <;> simp [fldD]
theorem text_short : ∀ {ps : List Pc}, (∀ x ∈ ps, PcS x) → (textL ps).length ≤ 11 * ps.length
  | [], _ => by simp [textL]
  | x :: ps, h => by
    have ih := text_short (ps := ps) fun y hy => h y (List.mem_cons_of_mem _ hy)
    have := line_short (h x (List.mem_cons_self ..))
    have e : textL (x :: ps) = (lineL x ++ [10]) ++ textL ps := by simp [textL]
    rw [e, List.length_append, List.length_append, List.length_cons]
    simp
    omega
theorem line_okc {x : Pc} (hg : PcG x) : ∀ c ∈ lineL x, okc c := fun c hc => by
  cases x with
  | sg w =>
    rcases List.mem_append.mp hc with hc | hc
    · have : ∀ c ∈ sgn, okc c := by decide
      exact this c hc
    · exact hg.2.2 c hc
  | cp a m =>
    rw [line_cp] at hc
    have h0 : ∀ c ∈ cpy, okc c := by decide
    simp only [List.mem_append, List.mem_cons] at hc
    rcases hc with hc | rfl | hc | rfl | hc
    · exact h0 c hc
    · decide
    · have := cn_digits a c hc; unfold okc; omega
    · decide
    · have := cn_digits m c hc; unfold okc; omega
theorem text_okc {ps : List Pc} (hg : ∀ x ∈ ps, PcG x) : ∀ c ∈ textL ps, c = 10 ∨ okc c := fun c hc => by
  unfold textL at hc
  obtain ⟨l, hl, hc⟩ := List.mem_flatten.mp hc
  obtain ⟨x, hx, rfl⟩ := List.mem_map.mp hl
  rcases List.mem_append.mp hc with hc | hc
  · exact .inr (line_okc (hg x hx) c hc)
  · exact .inl (List.mem_singleton.mp hc)
theorem law_line_in {x : Pc} (hg : PcG x) (hs : PcS x) : (itR (pcD x) >>= fun ds => bigR ds (compL (fun d => strR [d]) (fun _ => .ok true) ds) >>= fun y => joinSR (strOf [32]) [y] >>= fun z => addR z (.str (strOf [10]))) = .ok (.str (strOf (lineL x ++ [10]))) := by
  have hi : itR (pcD x) = .ok (fldD x) := by rw [pcD_fld]; rfl
  have c1 := fld_strs hs.b
  have b1 := big_ok (ds := fldD x) (es := (wordsL x).map fun w => D.str (strOf w)) (by have := words_few x; omega)
  have sh := line_short hs
  have j1 := join_bl (Y := wordsL x) (words_sum hs) (by rw [words_line]; omega) (by rw [words_line]; exact fun c hc => (line_codes hg c hc).2)
  rw [words_line] at j1
  have a1 := adds (a := lineL x) (b := [10]) (by simp; omega)
  rw [hi, ok_bind, c1, b1, ok_bind, j1, ok_bind, a1]
theorem law_lines_ok {ps : List Pc} (hl : ps.length ≤ 4) (hg : ∀ x ∈ ps, PcG x) (hs : ∀ x ∈ ps, PcS x) : g__law_lines [letD ps] = .ok (.str (strOf (textL ps))) := by
  have c1 : compL (fun d => itR d >>= fun ds => bigR ds (compL (fun d => strR [d]) (fun _ => .ok true) ds) >>= fun y => joinSR (strOf [32]) [y] >>= fun z => addR z (.str (strOf [10]))) (fun _ => .ok true) (ps.map pcD) = .ok (ps.map fun x => D.str (strOf (lineL x ++ [10]))) := comp_list pcD _ fun x hx => law_line_in (hg x hx) (hs x hx)
  have b1 := big_ok (ds := ps.map pcD) (es := ps.map fun x => D.str (strOf (lineL x ++ [10]))) (by rw [List.length_map]; omega)
  have tl := text_short hs
  have hj := s_join (xs := ps.map fun x => lineL x ++ [10]) (f := strOf) (by
    rw [List.map_map]
    have e : (ps.map fun x => lineL x ++ [10]).map ((fun x : Str => x.length) ∘ strOf) = (ps.map fun x => lineL x ++ [10]).map List.length := List.map_congr_left fun w _ => len_strOf w
    rw [e, ← List.length_flatten]
    have tl : ((ps.map fun x => lineL x ++ [10]).flatten).length ≤ 11 * ps.length := tl
    omega)
  rw [catS_strOf, List.map_map] at hj
  have hj : joinR (Str.ofString "") [.lst (ps.map fun x => D.str (strOf (lineL x ++ [10])))] = .ok (.str (strOf (textL ps))) := hj
  generalize (ps.map fun x => D.str (strOf (lineL x ++ [10]))) = ML at c1 b1 hj
  generalize strOf (textL ps) = MS at hj ⊢
  unfold letD
  generalize ps.map pcD = PD at c1 b1 ⊢
  simp [g__law_lines, F__law_lines, lit_nl, lit_bl, c1, b1, hj]
theorem LP.s {x : Pc} (h : LP 20 x) : PcS x := by
  cases x with
  | cp a m => have h1 := h.1; have h2 := h.2; exact ⟨by omega, by omega⟩
  | sg w => exact h.2.1

noncomputable def SpR (t : List Nat) (d : D) : Prop := (∃ l, OkL l ∧ d = .str (strOf l)) ∨ d = .non ∨ d = .int 5 ∨ d = .lst [.str (strOf t)]
noncomputable abbrev spc : Str := Str.ofString " \n0123456789copysignab-+."
theorem spc_sign (k : Nat) (hk : k < 24) : ∃ c, idxR (.str spc) (.int (k : Int)) = .ok (.str (strOf [c])) ∧ (c = 10 ∨ okc c) := by
  have h : ∀ k : Nat, k < 24 → (match spc.cps.toList[k]? with | some c => decide (c = 10) || decide (okc c) | none => false) = true := by decide +kernel
  have h := h k hk
  cases e : spc.cps.toList[k]? with
  | none => rw [e] at h; cases h
  | some c =>
    rw [e] at h
    refine ⟨c, ix_str e, ?_⟩
    have h : (decide (c = 10) || decide (okc c)) = true := h
    rw [Bool.or_eq_true, decide_eq_true_eq, decide_eq_true_eq] at h
    exact h
noncomputable abbrev tails : List D := [.str "signs \n", .str "copy 0 0\n", .str "copy 01 2\n", .str "signs  \n", .str "copy 1\n", .str "\n", .str "copy -1 2\n"]
theorem tail_lit (s : Str) (h : (decide (s.length ≤ 20) && s.cps.toList.all fun c => decide (c = 10) || decide (okc c)) = true) : ∃ y : List Nat, D.str s = .str (strOf y) ∧ y.length ≤ 20 ∧ ∀ c ∈ y, c = 10 ∨ okc c := by
  rw [Bool.and_eq_true, decide_eq_true_eq, List.all_eq_true] at h
  refine ⟨s.cps.toList, by rw [strOf_codes], h.1, fun c hc => ?_⟩
  have := h.2 c hc
  rw [Bool.or_eq_true, decide_eq_true_eq, decide_eq_true_eq] at this
  exact this
theorem tail_ok (k : Nat) (hk : k < 7) : ∃ y : List Nat, idxR (.lst tails) (.int (k : Int)) = .ok (.str (strOf y)) ∧ y.length ≤ 20 ∧ ∀ c ∈ y, c = 10 ∨ okc c := by
  have : ∀ {k : Nat} {s : Str}, tails[k]? = some (.str s) → (decide (s.length ≤ 20) && s.cps.toList.all fun c => decide (c = 10) || decide (okc c)) = true → ∃ y : List Nat, idxR (.lst tails) (.int (k : Int)) = .ok (.str (strOf y)) ∧ y.length ≤ 20 ∧ ∀ c ∈ y, c = 10 ∨ okc c := by
    intro k s h1 h2
    obtain ⟨y, e, h⟩ := tail_lit s h2
    exact ⟨y, by rw [ix_lst h1, e], h⟩
  have hk : k = 0 ∨ k = 1 ∨ k = 2 ∨ k = 3 ∨ k = 4 ∨ k = 5 ∨ k = 6 := by omega
  rcases hk with rfl | rfl | rfl | rfl | rfl | rfl | rfl
  · exact this (k := 0) rfl (by decide +kernel)
  · exact this (k := 1) rfl (by decide +kernel)
  · exact this (k := 2) rfl (by decide +kernel)
  · exact this (k := 3) rfl (by decide +kernel)
  · exact this (k := 4) rfl (by decide +kernel)
  · exact this (k := 5) rfl (by decide +kernel)
  · exact this (k := 6) rfl (by decide +kernel)
theorem cut_less (t : List Nat) (lo hi : Option Int) : ∃ y, cutT (strOf t) lo hi = strOf y ∧ y.length ≤ t.length ∧ ∀ c ∈ y, c ∈ t := by
  refine ⟨cutL t lo hi, by unfold cutT; rw [codes_strOf]; rfl, ?_, fun c hc => ?_⟩
  · unfold cutL; rw [List.length_take, List.length_drop]; omega
  · unfold cutL at hc; exact List.mem_of_mem_drop (List.mem_of_mem_take hc)
theorem spoilt_ok {t : List Nat} (h1 : t.length ≤ 60) (h2 : ∀ c ∈ t, c = 10 ∨ okc c) (z : Nat) : ∃ d, g__law_spoilt [.str (strOf t), .int (z : Int)] = .ok d ∧ SpR t d := by
  have hlen : (strOf t).length = t.length := len_strOf t
  obtain ⟨a, ha⟩ : ∃ a : Nat, a = z % (t.length + 1) := ⟨_, rfl⟩
  have m1 : modR (.int (z : Int)) (.int ((t.length : Int) + 1)) = .ok (.int (a : Int)) := by
    rw [s_mod (by omega), ha]; congr 2
  have f1 := s_fdiv (i := (z : Int)) (j := 100) (by decide)
  have f2 := s_fdiv (i := (z : Int)) (j := 2400) (by decide)
  have m2 : modR (.int ((z : Int) / 100)) (.int 24) = .ok (.int ((z / 100 % 24 : Nat) : Int)) := by rw [s_mod (by decide)]; congr 2
  have m3 : modR (.int ((z : Int) / 2400)) (.int 6) = .ok (.int ((z / 2400 % 6 : Nat) : Int)) := by rw [s_mod (by decide)]; congr 2
  have m7 : modR (.int (z : Int)) (.int 7) = .ok (.int ((z % 7 : Nat) : Int)) := by rw [s_mod (by decide)]; congr 2
  have m6 : modR (.int (z : Int)) (.int 6) = .ok (.int ((z % 6 : Nat) : Int)) := by rw [s_mod (by decide)]; congr 2
  obtain ⟨c, ix, hc⟩ := spc_sign (z / 100 % 24) (by omega)
  obtain ⟨y, iy, hy1, hy2⟩ := tail_ok (z % 7) (by omega)
  have hw : z / 2400 % 6 < 6 := by omega
  have h6 : z % 6 < 6 := by omega
  generalize z / 100 % 24 = k24 at *
  generalize z / 2400 % 6 = w at *
  generalize z % 7 = k7 at *
  generalize z % 6 = k6 at *
  have ok3 : ∀ {x y : List Nat}, x.length ≤ 100 → y.length ≤ 100 → (∀ c ∈ x, c = 10 ∨ okc c) → (∀ c ∈ y, c = 10 ∨ okc c) → OkL (x ++ y) := by
    intro x y q1 q2 q3 q4
    refine ⟨by rw [List.length_append]; omega, fun c hc => ?_⟩
    rcases List.mem_append.mp hc with hc | hc
    · exact q3 c hc
    · exact q4 c hc
  have hsub : ∀ {x : List Nat}, (∀ c ∈ x, c ∈ t) → ∀ c ∈ x, c = 10 ∨ okc c := fun q c hc => h2 c (q c hc)
  obtain ⟨p, hp, p1, p2⟩ := cut_less t none (some (a : Int))
  obtain ⟨q, hq, q1, q2⟩ := cut_less t (some (a : Int)) none
  obtain ⟨r, hr, r1, r2⟩ := cut_less t (some ((a : Int) + 1)) none
  obtain ⟨s, hs, s1, s2⟩ := cut_less t none (some (-1))
  have okc1 : ∀ d ∈ p ++ [c], d = 10 ∨ okc d := fun d hd => by
    rcases List.mem_append.mp hd with hd | hd
    · exact hsub p2 d hd
    · rw [List.mem_singleton.mp hd]; exact hc
  have lpc : (p ++ [c]).length ≤ 61 := by simp; omega
  have A1 := adds (a := p) (b := [c]) (by simp; omega)
  have A2 := adds (a := p ++ [c]) (b := q) (by omega)
  have A3 := adds (a := p) (b := r) (by omega)
  have A4 := adds (a := p ++ [c]) (b := r) (by omega)
  have A5 := adds (a := t) (b := y) (by omega)
  have A6 := adds (a := t) (b := t) (by omega)
  have K2 : OkL ((p ++ [c]) ++ q) := ok3 (by omega) (by omega) okc1 (hsub q2)
  have K3 : OkL (p ++ r) := ok3 (by omega) (by omega) (hsub p2) (hsub r2)
  have K4 : OkL ((p ++ [c]) ++ r) := ok3 (by omega) (by omega) okc1 (hsub r2)
  have K5 : OkL (t ++ y) := ok3 (by omega) (by omega) h2 hy2
  have K6 : OkL (t ++ t) := ok3 (by omega) (by omega) h2 h2
  have Ks : OkL s := ⟨by omega, hsub s2⟩
  have ix : idxR (.str (Str.ofString " \n0123456789copysignab-+.")) (.int (k24 : Int)) = .ok (.str (strOf [c])) := ix
  have lt7 : lstR [.str "signs \n", .str "copy 0 0\n", .str "copy 01 2\n", .str "signs  \n", .str "copy 1\n", .str "\n", .str "copy -1 2\n"] = .ok (.lst tails) := rfl
  have lt1 : ∀ d, lstR [d] = .ok (.lst [d]) := fun _ => rfl
  have lt6 : ∀ d e f, lstR [.non, .int 5, d, e, .str "signs a", f] = .ok (.lst [.non, .int 5, d, e, .str "signs a", f]) := fun _ _ _ => rfl
  obtain ⟨u1, v1, u2, u3⟩ := tail_lit (Str.ofString "signs a") (by decide +kernel)
  obtain ⟨w1, x1, w2, w3⟩ := tail_lit (Str.ofString "copy 1 2 3\n") (by decide +kernel)
  have hw : w = 0 ∨ w = 1 ∨ w = 2 ∨ w = 3 ∨ w = 4 ∨ w = 5 := by omega
  unfold SpR
  generalize strOf t = S at *
  unfold g__law_spoilt F__law_spoilt
  rcases hw with rfl | rfl | rfl | rfl | rfl | rfl
  · exact ⟨_, by simp [-List.append_assoc, hlen, m1, f1, f2, m2, m3, ix, hp, hq, A1, A2], .inl ⟨_, K2, rfl⟩⟩
  · exact ⟨_, by simp [-List.append_assoc, hlen, m1, f1, f2, m2, m3, ix, hp, hr, A3], .inl ⟨_, K3, rfl⟩⟩
  · exact ⟨_, by simp [-List.append_assoc, hlen, m1, f1, f2, m2, m3, ix, hp, hr, A1, A4], .inl ⟨_, K4, rfl⟩⟩
  · exact ⟨_, by simp [-List.append_assoc, hlen, m1, f1, f2, m2, m3, ix, m7, lt7, iy, A5], .inl ⟨_, K5, rfl⟩⟩
  · exact ⟨_, by simp [-List.append_assoc, hlen, m1, f1, f2, m2, m3, ix, A6], .inl ⟨_, K6, rfl⟩⟩
  · have hk : k6 = 0 ∨ k6 = 1 ∨ k6 = 2 ∨ k6 = 3 ∨ k6 = 4 ∨ k6 = 5 := by omega
    have j0 : idxR (.lst [.non, .int 5, .lst [.str S], .str (strOf s), .str (Str.ofString "signs a"), .str (Str.ofString "copy 1 2 3\n")]) (.int 0) = .ok (.non) := ix_lst (i := 0) rfl
    have j1 : idxR (.lst [.non, .int 5, .lst [.str S], .str (strOf s), .str (Str.ofString "signs a"), .str (Str.ofString "copy 1 2 3\n")]) (.int 1) = .ok (.int 5) := ix_lst (i := 1) rfl
    have j2 : idxR (.lst [.non, .int 5, .lst [.str S], .str (strOf s), .str (Str.ofString "signs a"), .str (Str.ofString "copy 1 2 3\n")]) (.int 2) = .ok (.lst [.str S]) := ix_lst (i := 2) rfl
    have j3 : idxR (.lst [.non, .int 5, .lst [.str S], .str (strOf s), .str (Str.ofString "signs a"), .str (Str.ofString "copy 1 2 3\n")]) (.int 3) = .ok (.str (strOf s)) := ix_lst (i := 3) rfl
    have j4 : idxR (.lst [.non, .int 5, .lst [.str S], .str (strOf s), .str (Str.ofString "signs a"), .str (Str.ofString "copy 1 2 3\n")]) (.int 4) = .ok (.str (Str.ofString "signs a")) := ix_lst (i := 4) rfl
    have j5 : idxR (.lst [.non, .int 5, .lst [.str S], .str (strOf s), .str (Str.ofString "signs a"), .str (Str.ofString "copy 1 2 3\n")]) (.int 5) = .ok (.str (Str.ofString "copy 1 2 3\n")) := ix_lst (i := 5) rfl
    rcases hk with rfl | rfl | rfl | rfl | rfl | rfl
    · exact ⟨.non, by simp [hlen, m1, f1, f2, m2, m3, ix, m6, lt1, lt6, hs, j0], .inr (.inl rfl)⟩
    · exact ⟨.int 5, by simp [hlen, m1, f1, f2, m2, m3, ix, m6, lt1, lt6, hs, j1], .inr (.inr (.inl rfl))⟩
    · exact ⟨.lst [.str S], by simp [hlen, m1, f1, f2, m2, m3, ix, m6, lt1, lt6, hs, j2], .inr (.inr (.inr rfl))⟩
    · exact ⟨.str (strOf s), by simp [hlen, m1, f1, f2, m2, m3, ix, m6, lt1, lt6, hs, j3], .inl ⟨_, Ks, rfl⟩⟩
    · exact ⟨.str (Str.ofString "signs a"), by simp [hlen, m1, f1, f2, m2, m3, ix, m6, lt1, lt6, hs, j4], .inl ⟨_, ⟨by omega, u3⟩, v1⟩⟩
    · exact ⟨.str (Str.ofString "copy 1 2 3\n"), by simp [hlen, m1, f1, f2, m2, m3, ix, m6, lt1, lt6, hs, j5], .inl ⟨_, ⟨by omega, w3⟩, x1⟩⟩

theorem law_end {ns : List Int} {ps : List Pc} {t : List Nat} {z : Int} {d : D} (e1 : g__law_letter [scr ns, .int 1, .int 20, .int 4] = .ok (letD ps)) (e2 : g__law_lines [letD ps] = .ok (.str (strOf t)))
    (e3 : g__law_mixed [scr ns, .int 0, .int 1000000] = .ok (.int z)) (e4 : g__law_spoilt [.str (strOf t), .int z] = .ok d)
    (h : (g_read [d] = .exc "NoLines" ∧ g__law_due [d] = .ok .non) ∨ ∃ xs : List Pc, g_read [d] = .ok (letD xs) ∧ g__law_due [d] = .ok (letD xs)) : g_law [scr ns] = .ok (.bl true) := by
  have hpow : powR (.int 10) (.int 6) = .ok (.int 1000000) := by simp [s_pow]
  have nn : eqR .non .non = .ok (.bl true) := rfl
  generalize strOf t = S at *
  generalize letD ps = LD at *
  rcases h with ⟨r1, r2⟩ | ⟨xs, r1, r2⟩
  · simp [g_law, F_law, e1, e2, e3, e4, hpow, r1, r2, nn]
  · have n1 := let_eq xs
    generalize letD xs = XD at *
    simp [g_law, F_law, e1, e2, e3, e4, hpow, r1, r2, n1]
theorem isi_ns : isiN "NoneType" "str" = false := by decide
theorem isi_is : isiN "int" "str" = false := by decide
theorem isi_ls : isiN "list" "str" = false := by decide
theorem math (ns : List Int) (hn : ns.length ≤ 63) : g_law [.lst (ns.map D.int)] = .ok (.bl true) := by
  obtain ⟨ps, e1, l1, q1⟩ := law_letter_ok ns 1 20 4 (by omega) (by decide) (by decide)
  have G : ∀ x ∈ ps, PcG x := fun x hx => (q1 x hx).g
  have S : ∀ x ∈ ps, PcS x := fun x hx => (q1 x hx).s
  have e2 := law_lines_ok l1 G S
  obtain ⟨z, e3, z0, z1⟩ := mixed_ok ns 0 (m := 1000000) (by omega)
  obtain ⟨k, rfl⟩ : ∃ k : Nat, z = (k : Int) := ⟨z.toNat, by omega⟩
  have tl := text_short S
  obtain ⟨d, e4, hd⟩ := spoilt_ok (t := textL ps) (by omega) (text_okc G) k
  refine law_end e1 e2 e3 e4 ?_
  rcases hd with ⟨l, hl, rfl⟩ | rfl | rfl | rfl
  · exact read_due hl
  · exact .inl ⟨by simp [g_read, F_read, isi_ns], by simp [g__law_due, F__law_due, isi_ns]⟩
  · exact .inl ⟨by simp [g_read, F_read, isi_is], by simp [g__law_due, F__law_due, isi_is]⟩
  · exact .inl ⟨by simp [g_read, F_read, isi_ls], by simp [g__law_due, F__law_due, isi_ls]⟩

end A
set_option Elab.async false
set_option linter.all false
set_option maxRecDepth 100000
set_option maxHeartbeats 4000000
namespace A
open PySem PySem.Spec PyProof.Rows L2 M
set_option autoImplicit false
noncomputable def top (i : Nat) : Stmt := PySem.Challenge.pw_rollmend_k17_lines_refused.main.body.getD i (.Pass ⟨0, 0, 0, 0⟩)
structure Txt (K : PySem.W.Frag) (mg : Str → Option Value) : Prop where
  b_len : mg "len" = none
  b_str : mg "str" = none
  b_all : mg "all" = none
  b_int : mg "int" = none
  b_ord : mg "ord" = none
  b_isinstance : mg "isinstance" = none
  b_bool : mg "bool" = none
  b_tuple : mg "tuple" = none
  b_list : mg "list" = none
  b_range : mg "range" = none
  b_ValueError : mg "ValueError" = none
  c_MOST_FIGURES : ∃ t, mg "MOST_FIGURES" = some (.int 300 t)
  c_FIGURES : ∃ t, mg "FIGURES" = some (.str "0123456789" t)
  c_BLANK : ∃ t, mg "BLANK" = some (.int 32 t)
  c_TILDE : ∃ t, mg "TILDE" = some (.int 126 t)
  c_PERCENT : ∃ t, mg "PERCENT" = some (.int 37 t)
  c_MOST_SIGNS : ∃ t, mg "MOST_SIGNS" = some (.int 2000 t)
  c_MOST_PIECES : ∃ t, mg "MOST_PIECES" = some (.int 2000 t)
  x_NoLines : ExcC K mg "NoLines"
  i_NoLines_MendError : ∃ D, mg "MendError" = some (.ref D) ∧ ∀ c ∈ (["NoLines"] : List Str), IsxK K c (.ref D)
  i_NoLines_ValueError : ∀ c ∈ (["NoLines"] : List Str), IsxK K c (.type "ValueError")
  n_NoLines_NoLetter : ∃ D, mg "NoLetter" = some (.ref D) ∧ ∀ c ∈ (["NoLines"] : List Str), IsyK K c (.ref D) false
  m_NoLines_NoLines : ∀ c ∈ (["NoLines"] : List Str), ExM K mg c "NoLines"
section
variable {P : Program} {w : World} {K : PySem.W.Frag} {mg : Str → Option Value} {base : Heap}
theorem ok__law_spoilt {f : Addr} {fd : FuncData} (F : Fun K "_law_spoilt" "_law_spoilt" (top 34) f fd) (hx : mg "_law_spoilt" = some (.ref f)) (T : Txt K mg) : Fn P w K mg base "_law_spoilt" 1 2 g__law_spoilt := by
  have S : FnScope ["_law_text_here", "_law_cell", "_law_at", "_law_sign", "_law_way"] ["_law_text_here", "_law_cell"] (defScope (top 34)) := ⟨rfl, rfl, rfl, by decide +kernel, rfl, by decide +kernel, by decide +kernel⟩
  refine def_ok (m := 3) (k := 0) (Fb := F__law_spoilt) F S rfl (fun _ _ _ _ _ _ us hl => match us, hl with | [_, _], _ => rfl) hx fun cdv A outer s H E G₀ hr => ?_
  have hu := hr.units
  exact (pds_cons (q_set 2 S.nd (q_bin od_mod (pd_var 1) (q_bin od_add (q_blt cd_len T.b_len (by rfl) (q_aC (pd_var 0) q_a0)) pd_int)))
      (pds_cons (q_set 3 S.nd (q_ix pd_str (q_bin od_mod (q_bin od_fdiv (pd_var 1) pd_int) pd_int)))
      (pds_cons (q_set 4 S.nd (q_bin od_mod (q_bin od_fdiv (pd_var 1) pd_int) pd_int))
      (pds_cons (q_ifS (q_tcmp (od_eq hu) (pd_var 4) pd_int) (pds_one (q_ret (q_bin od_add (q_bin od_add (q_slice (pd_var 0) q_noPart (q_part (pd_var 2))) (pd_var 3)) (q_slice (pd_var 0) (q_part (pd_var 2)) q_noPart)))) pds_nil)
      (pds_cons (q_ifS (q_tcmp (od_eq hu) (pd_var 4) pd_int) (pds_one (q_ret (q_bin od_add (q_slice (pd_var 0) q_noPart (q_part (pd_var 2))) (q_slice (pd_var 0) (q_part (q_bin od_add (pd_var 2) pd_int)) q_noPart)))) pds_nil)
      (pds_cons (q_ifS (q_tcmp (od_eq hu) (pd_var 4) pd_int) (pds_one (q_ret (q_bin od_add (q_bin od_add (q_slice (pd_var 0) q_noPart (q_part (pd_var 2))) (pd_var 3)) (q_slice (pd_var 0) (q_part (q_bin od_add (pd_var 2) pd_int)) q_noPart)))) pds_nil)
      (pds_cons (q_ifS (q_tcmp (od_eq hu) (pd_var 4) pd_int) (pds_one (q_ret (q_bin od_add (pd_var 0) (q_ix (q_lst (q_aC pd_str (q_aC pd_str (q_aC pd_str (q_aC pd_str (q_aC pd_str (q_aC pd_str (q_aC pd_str q_a0)))))))) (q_bin od_mod (pd_var 1) pd_int))))) pds_nil)
      (pds_cons (q_ifS (q_tcmp (od_eq hu) (pd_var 4) pd_int) (pds_one (q_ret (q_bin od_add (pd_var 0) (pd_var 0)))) pds_nil)
      (pds_one (q_ret (q_ix (q_lst (q_aC pd_non (q_aC pd_int (q_aC (q_lst (q_aC (pd_var 0) q_a0)) (q_aC (q_slice (pd_var 0) q_noPart (q_part (q_neg pd_int))) (q_aC pd_str (q_aC pd_str q_a0))))))) (q_bin od_mod (pd_var 1) pd_int))))))))))))

theorem ok__law_lines {f : Addr} {fd : FuncData} (F : Fun K "_law_lines" "_law_lines" (top 33) f fd) (hx : mg "_law_lines" = some (.ref f)) (T : Txt K mg) : Fn P w K mg base "_law_lines" 1 1 g__law_lines := by
  have S : FnScope ["_law_letter_here"] ["_law_letter_here"] (defScope (top 33)) := ⟨rfl, rfl, rfl, by decide +kernel, rfl, by decide +kernel, by decide +kernel⟩
  refine def_ok (m := 0) (k := 0) (Fb := F__law_lines) F S rfl (fun _ _ _ _ _ _ us hl => match us, hl with | [_], _ => rfl) hx fun cdv A outer s H E G₀ hr => ?_
  have hu := hr.units
  exact (pds_one (q_ret (q_meth PySem.F.slot_str_join PySem.F.type_str_join mts_join pd_str (q_aC (q_comp (sc := defScope (top 33)) (N := ["_law_letter_here"]) [] (by decide +kernel) rfl rfl rfl (q_it (pd_var 0)) .nil fun C s₀ H₀ fp B G₀ => (q_bin od_add (q_meth PySem.F.slot_str_join PySem.F.type_str_join mts_joinS pd_str (q_aC (q_comp (sc := _) (N := _) [] (by rfl) rfl rfl rfl (q_it (pd_var 0)) .nil fun C s₀ H₀ fp B G₀ => (q_ty cd_str T.b_str (by rfl) (q_aC (pd_var 0) q_a0))) q_a0)) pd_str)) q_a0))))

theorem ok__law_cell_at {f : Addr} {fd : FuncData} (F : Fun K "_law_cell_at" "_law_cell_at" (top 26) f fd) (hx : mg "_law_cell_at" = some (.ref f)) (T : Txt K mg) : Fn P w K mg base "_law_cell_at" 1 2 g__law_cell_at := by
  have S : FnScope ["_law_script", "_law_k"] ["_law_script", "_law_k"] (defScope (top 26)) := ⟨rfl, rfl, rfl, by decide +kernel, rfl, by decide +kernel, by decide +kernel⟩
  refine def_ok (m := 0) (k := 0) (Fb := F__law_cell_at) F S rfl (fun _ _ _ _ _ _ us hl => match us, hl with | [_, _], _ => rfl) hx fun cdv A outer s H E G₀ hr => ?_
  have hu := hr.units
  exact (pds_cons (q_ifS (q_tcmp od_lt (pd_var 1) (q_blt cd_len T.b_len (by rfl) (q_aC (pd_var 0) q_a0))) (pds_one (q_ret (q_ix (pd_var 0) (pd_var 1)))) pds_nil)
      (pds_cons (q_ifS (q_tcmp (od_eq hu) (pd_var 0) (q_lst q_a0)) (pds_one (q_ret pd_int)) pds_nil)
      (pds_one (q_ret (q_bin od_add (q_bin od_mul (q_ix (pd_var 0) (q_bin od_mod (pd_var 1) (q_blt cd_len T.b_len (by rfl) (q_aC (pd_var 0) q_a0)))) pd_int) (pd_var 1))))))

theorem ok__law_mixed {f : Addr} {fd : FuncData} (F : Fun K "_law_mixed" "_law_mixed" (top 27) f fd) (hx : mg "_law_mixed" = some (.ref f)) (T : Txt K mg) (h__law_cell_at : Fn P w K mg base "_law_cell_at" 1 2 g__law_cell_at) : Fn P w K mg base "_law_mixed" 2 3 g__law_mixed := by
  have S : FnScope ["_law_script", "_law_k", "_law_many", "_law_drawn"] ["_law_script", "_law_k", "_law_many"] (defScope (top 27)) := ⟨rfl, rfl, rfl, by decide +kernel, rfl, by decide +kernel, by decide +kernel⟩
  refine def_ok (m := 1) (k := 1) (Fb := F__law_mixed) F S rfl (fun _ _ _ _ _ _ us hl => match us, hl with | [_, _, _], _ => rfl) hx fun cdv A outer s H E G₀ hr => ?_
  have hu := hr.units
  exact (pds_cons (q_set 3 S.nd (q_bin od_mod (q_bin od_mul (q_bin od_add (q_bin od_add (q_call h__law_cell_at (hr.mono (by decide)) (q_aC (pd_var 0) (q_aC (pd_var 1) q_a0))) (q_bin od_mul pd_int (pd_var 1))) pd_int) pd_int) pd_int))
      (pds_one (q_ret (q_bin od_mod (q_bin od_mod (q_bin od_add (q_bin od_add (q_bin od_mul (pd_var 3) (pd_var 3)) (q_bin od_mul pd_int (pd_var 3))) (pd_var 1)) pd_int) (pd_var 2)))))

theorem ok_is_number {f : Addr} {fd : FuncData} (F : Fun K "is_number" "is_number" (top 24) f fd) (hx : mg "is_number" = some (.ref f)) (T : Txt K mg) : Fn P w K mg base "is_number" 1 1 g_is_number := by
  have S : FnScope ["word"] ["word"] (defScope (top 24)) := ⟨rfl, rfl, rfl, by decide +kernel, rfl, by decide +kernel, by decide +kernel⟩
  refine def_ok (m := 0) (k := 0) (Fb := F_is_number) F S rfl (fun _ _ _ _ _ _ us hl => match us, hl with | [_], _ => rfl) hx fun cdv A outer s H E G₀ hr => ?_
  have hu := hr.units
  exact (pds_cons (q_ifS (PW.pt (q_wor (q_tcmp (od_eq hu) (q_blt cd_len T.b_len (by rfl) (q_aC (pd_var 0) q_a0)) pd_int) (q_w1o (q_tcmp od_gt (q_blt cd_len T.b_len (by rfl) (q_aC (pd_var 0) q_a0)) (q_gint T.c_MOST_FIGURES))))) (pds_one (q_ret pd_bl)) pds_nil)
      (pds_cons (q_ifS (PW.pt (q_wand (q_tcmp (od_eq hu) (q_ix (pd_var 0) pd_int) pd_str) (q_w1a (q_tcmp od_gt (q_blt cd_len T.b_len (by rfl) (q_aC (pd_var 0) q_a0)) pd_int)))) (pds_one (q_ret pd_bl)) pds_nil)
      (pds_one (q_ret (q_blt (cd_all rfl) T.b_all (by rfl) (q_aC (q_comp (sc := defScope (top 24)) (N := ["word"]) [] (by decide +kernel) rfl rfl rfl (q_it (pd_var 0)) .nil fun C s₀ H₀ fp B G₀ => (q_cmp (od_inA hu) (pd_var 0) (q_gstr T.c_FIGURES))) q_a0))))))

theorem ok_number_of {f : Addr} {fd : FuncData} (F : Fun K "number_of" "number_of" (top 23) f fd) (hx : mg "number_of" = some (.ref f)) (T : Txt K mg) (h_is_number : Fn P w K mg base "is_number" 1 1 g_is_number) : FnX P w K mg base "number_of" 2 1 g_number_of := by
  have S : FnScope ["word"] ["word"] (defScope (top 23)) := ⟨rfl, rfl, rfl, by decide +kernel, rfl, by decide +kernel, by decide +kernel⟩
  refine def_okX (m := 0) (k := 1) (Fb := F_number_of) F S rfl (fun _ _ _ _ _ _ us hl => match us, hl with | [_], _ => rfl) hx fun cdv A outer s H E G₀ hr => ?_
  have hu := hr.units
  exact (pds_cons (q_ifS (q_tnot (q_tval (q_call h_is_number (hr.mono (by decide)) (q_aC (pd_var 0) q_a0)))) (pds_one (q_raise rfl T.x_NoLines (q_aC pd_str q_a0))) pds_nil)
      (pds_one (q_ret (q_ty cd_intT T.b_int (by rfl) (q_aC (pd_var 0) q_a0)))))

theorem ok_piece_of {f : Addr} {fd : FuncData} (F : Fun K "piece_of" "piece_of" (top 22) f fd) (hx : mg "piece_of" = some (.ref f)) (T : Txt K mg) (h_number_of : FnX P w K mg base "number_of" 2 1 g_number_of) : FnX P w K mg base "piece_of" 3 1 g_piece_of := by
  have S : FnScope ["row", "words"] ["row"] (defScope (top 22)) := ⟨rfl, rfl, rfl, by decide +kernel, rfl, by decide +kernel, by decide +kernel⟩
  refine def_okX (m := 1) (k := 2) (Fb := F_piece_of) F S rfl (fun _ _ _ _ _ _ us hl => match us, hl with | [_], _ => rfl) hx fun cdv A outer s H E G₀ hr => ?_
  have hu := hr.units
  exact (pds_cons (q_ifS (q_tval (q_meth PySem.F.slot_str_startswith PySem.F.type_str_startswith mts_start (pd_var 0) (q_aC pd_str q_a0))) (pds_one (q_ret (q_tup (q_aC pd_str (q_aC (q_slice (pd_var 0) (q_part (q_blt cd_len T.b_len (by rfl) (q_aC pd_str q_a0))) q_noPart) q_a0))))) pds_nil)
      (pds_cons (q_set 1 S.nd (q_asV (q_split (pd_var 0) (q_aC pd_str q_a0))))
      (pds_cons (q_ifS (PW.pt (q_wor (q_tcmp (od_ne hu) (q_blt cd_len T.b_len (by rfl) (q_aC (pd_var 1) q_a0)) pd_int) (q_w1o (q_tcmp (od_ne hu) (q_ix (pd_var 1) pd_int) pd_str)))) (pds_one (q_raise rfl T.x_NoLines (q_aC pd_str q_a0))) pds_nil)
      (pds_one (q_ret (q_tup (q_aC pd_str (q_aC (q_callX h_number_of (hr.mono (by decide)) (q_aC (q_ix (pd_var 1) pd_int) q_a0)) (q_aC (q_callX h_number_of (hr.mono (by decide)) (q_aC (q_ix (pd_var 1) pd_int) q_a0)) q_a0)))))))))

theorem ok_is_copy {f : Addr} {fd : FuncData} (F : Fun K "is_copy" "is_copy" (top 17) f fd) (hx : mg "is_copy" = some (.ref f)) (T : Txt K mg) : Fn P w K mg base "is_copy" 1 1 g_is_copy := by
  have S : FnScope ["piece"] ["piece"] (defScope (top 17)) := ⟨rfl, rfl, rfl, by decide +kernel, rfl, by decide +kernel, by decide +kernel⟩
  refine def_ok (m := 0) (k := 0) (Fb := F_is_copy) F S rfl (fun _ _ _ _ _ _ us hl => match us, hl with | [_], _ => rfl) hx fun cdv A outer s H E G₀ hr => ?_
  have hu := hr.units
  exact (pds_one (q_ret (q_cmp (od_eq hu) (q_ix (pd_var 0) pd_int) pd_str)))

theorem ok_is_sign {f : Addr} {fd : FuncData} (F : Fun K "is_sign" "is_sign" (top 11) f fd) (hx : mg "is_sign" = some (.ref f)) (T : Txt K mg) : Fn P w K mg base "is_sign" 1 1 g_is_sign := by
  have S : FnScope ["sign", "worth"] ["sign"] (defScope (top 11)) := ⟨rfl, rfl, rfl, by decide +kernel, rfl, by decide +kernel, by decide +kernel⟩
  refine def_ok (m := 1) (k := 0) (Fb := F_is_sign) F S rfl (fun _ _ _ _ _ _ us hl => match us, hl with | [_], _ => rfl) hx fun cdv A outer s H E G₀ hr => ?_
  have hu := hr.units
  exact (pds_cons (q_set 1 S.nd (q_blt cd_ord T.b_ord (by rfl) (q_aC (pd_var 0) q_a0)))
      (pds_one (q_ret (q_and (q_chain od_le od_le (q_gint T.c_BLANK) (pd_var 1) (q_gint T.c_TILDE)) (pd_one (q_cmp (od_ne hu) (pd_var 1) (q_gint T.c_PERCENT)))))))

theorem ok_is_text {f : Addr} {fd : FuncData} (F : Fun K "is_text" "is_text" (top 12) f fd) (hx : mg "is_text" = some (.ref f)) (T : Txt K mg) (h_is_sign : Fn P w K mg base "is_sign" 1 1 g_is_sign) : Fn P w K mg base "is_text" 2 1 g_is_text := by
  have S : FnScope ["thing"] ["thing"] (defScope (top 12)) := ⟨rfl, rfl, rfl, by decide +kernel, rfl, by decide +kernel, by decide +kernel⟩
  refine def_ok (m := 0) (k := 1) (Fb := F_is_text) F S rfl (fun _ _ _ _ _ _ us hl => match us, hl with | [_], _ => rfl) hx fun cdv A outer s H E G₀ hr => ?_
  have hu := hr.units
  exact (pds_cons (q_ifS (PW.pt (q_wor (q_tnot (q_tval (q_isi (isi_str _) T.b_isinstance T.b_str (by rfl) (pd_var 0)))) (q_w1o (q_tcmp od_gt (q_blt cd_len T.b_len (by rfl) (q_aC (pd_var 0) q_a0)) (q_gint T.c_MOST_SIGNS))))) (pds_one (q_ret pd_bl)) pds_nil)
      (pds_one (q_ret (q_blt (cd_all rfl) T.b_all (by rfl) (q_aC (q_comp (sc := defScope (top 12)) (N := ["thing"]) [] (by decide +kernel) rfl rfl rfl (q_it (pd_var 0)) .nil fun C s₀ H₀ fp B G₀ => (q_call h_is_sign (hr.mono (by decide)) (q_aC (pd_var 0) q_a0))) q_a0)))))

theorem ok_is_whole {f : Addr} {fd : FuncData} (F : Fun K "is_whole" "is_whole" (top 9) f fd) (hx : mg "is_whole" = some (.ref f)) (T : Txt K mg) : Fn P w K mg base "is_whole" 1 1 g_is_whole := by
  have S : FnScope ["thing"] ["thing"] (defScope (top 9)) := ⟨rfl, rfl, rfl, by decide +kernel, rfl, by decide +kernel, by decide +kernel⟩
  refine def_ok (m := 0) (k := 0) (Fb := F_is_whole) F S rfl (fun _ _ _ _ _ _ us hl => match us, hl with | [_], _ => rfl) hx fun cdv A outer s H E G₀ hr => ?_
  have hu := hr.units
  exact (pds_one (q_ret (q_and (q_isi (isi_int _) T.b_isinstance T.b_int (by rfl) (pd_var 0)) (pd_one (q_not (q_isi (isi_bool _) T.b_isinstance T.b_bool (by rfl) (pd_var 0)))))))

theorem ok_is_from {f : Addr} {fd : FuncData} (F : Fun K "is_from" "is_from" (top 10) f fd) (hx : mg "is_from" = some (.ref f)) (T : Txt K mg) (h_is_whole : Fn P w K mg base "is_whole" 1 1 g_is_whole) : Fn P w K mg base "is_from" 2 2 g_is_from := by
  have S : FnScope ["thing", "lowest"] ["thing", "lowest"] (defScope (top 10)) := ⟨rfl, rfl, rfl, by decide +kernel, rfl, by decide +kernel, by decide +kernel⟩
  refine def_ok (m := 0) (k := 1) (Fb := F_is_from) F S rfl (fun _ _ _ _ _ _ us hl => match us, hl with | [_, _], _ => rfl) hx fun cdv A outer s H E G₀ hr => ?_
  have hu := hr.units
  exact (pds_one (q_ret (q_and (q_call h_is_whole (hr.mono (by decide)) (q_aC (pd_var 0) q_a0)) (pd_one (q_cmp od_ge (pd_var 0) (pd_var 1))))))

theorem ok_is_piece {f : Addr} {fd : FuncData} (F : Fun K "is_piece" "is_piece" (top 16) f fd) (hx : mg "is_piece" = some (.ref f)) (T : Txt K mg) (h_is_copy : Fn P w K mg base "is_copy" 1 1 g_is_copy) (h_is_text : Fn P w K mg base "is_text" 2 1 g_is_text) (h_is_from : Fn P w K mg base "is_from" 2 2 g_is_from) : Fn P w K mg base "is_piece" 3 1 g_is_piece := by
  have S : FnScope ["thing"] ["thing"] (defScope (top 16)) := ⟨rfl, rfl, rfl, by decide +kernel, rfl, by decide +kernel, by decide +kernel⟩
  refine def_ok (m := 0) (k := 2) (Fb := F_is_piece) F S rfl (fun _ _ _ _ _ _ us hl => match us, hl with | [_], _ => rfl) hx fun cdv A outer s H E G₀ hr => ?_
  have hu := hr.units
  exact (pds_cons (q_ifS (PW.pt (q_wor (q_tnot (q_tval (q_isi (isi_tuple _) T.b_isinstance T.b_tuple (by rfl) (pd_var 0)))) (q_wor (q_tcmp (od_eq hu) (q_blt cd_len T.b_len (by rfl) (q_aC (pd_var 0) q_a0)) pd_int) (q_w1o (q_tnot (q_tval (q_isi (isi_str _) T.b_isinstance T.b_str (by rfl) (q_ix (pd_var 0) pd_int)))))))) (pds_one (q_ret pd_bl)) pds_nil)
      (pds_cons (q_ifS (q_tval (q_call h_is_copy (hr.mono (by decide)) (q_aC (pd_var 0) q_a0))) (pds_one (q_ret (q_and (q_cmp (od_eq hu) (q_blt cd_len T.b_len (by rfl) (q_aC (pd_var 0) q_a0)) pd_int) (q_and (q_call h_is_from (hr.mono (by decide)) (q_aC (q_ix (pd_var 0) pd_int) (q_aC pd_int q_a0))) (pd_one (q_call h_is_from (hr.mono (by decide)) (q_aC (q_ix (pd_var 0) pd_int) (q_aC pd_int q_a0)))))))) pds_nil)
      (pds_cons (q_ifS (PW.pt (q_wor (q_tcmp (od_ne hu) (q_ix (pd_var 0) pd_int) pd_str) (q_w1o (q_tcmp (od_ne hu) (q_blt cd_len T.b_len (by rfl) (q_aC (pd_var 0) q_a0)) pd_int)))) (pds_one (q_ret pd_bl)) pds_nil)
      (pds_one (q_ret (q_and (q_call h_is_text (hr.mono (by decide)) (q_aC (q_ix (pd_var 0) pd_int) q_a0)) (pd_one (q_cmp od_gt (q_blt cd_len T.b_len (by rfl) (q_aC (q_ix (pd_var 0) pd_int) q_a0)) pd_int))))))))

theorem ok_is_letter {f : Addr} {fd : FuncData} (F : Fun K "is_letter" "is_letter" (top 15) f fd) (hx : mg "is_letter" = some (.ref f)) (T : Txt K mg) (h_is_piece : Fn P w K mg base "is_piece" 3 1 g_is_piece) : Fn P w K mg base "is_letter" 4 1 g_is_letter := by
  have S : FnScope ["thing"] ["thing"] (defScope (top 15)) := ⟨rfl, rfl, rfl, by decide +kernel, rfl, by decide +kernel, by decide +kernel⟩
  refine def_ok (m := 0) (k := 3) (Fb := F_is_letter) F S rfl (fun _ _ _ _ _ _ us hl => match us, hl with | [_], _ => rfl) hx fun cdv A outer s H E G₀ hr => ?_
  have hu := hr.units
  exact (pds_cons (q_ifS (PW.pt (q_wor (q_tnot (q_tval (q_isi (isi_list _) T.b_isinstance T.b_list (by rfl) (pd_var 0)))) (q_w1o (q_tcmp od_gt (q_blt cd_len T.b_len (by rfl) (q_aC (pd_var 0) q_a0)) (q_gint T.c_MOST_PIECES))))) (pds_one (q_ret pd_bl)) pds_nil)
      (pds_one (q_ret (q_blt (cd_all rfl) T.b_all (by rfl) (q_aC (q_comp (sc := defScope (top 15)) (N := ["thing"]) [] (by decide +kernel) rfl rfl rfl (q_it (pd_var 0)) .nil fun C s₀ H₀ fp B G₀ => (q_call h_is_piece (hr.mono (by decide)) (q_aC (pd_var 0) q_a0))) q_a0)))))

theorem ok_read {f : Addr} {fd : FuncData} (F : Fun K "read" "read" (top 21) f fd) (hx : mg "read" = some (.ref f)) (T : Txt K mg) (h_piece_of : FnX P w K mg base "piece_of" 3 1 g_piece_of) (h_is_letter : Fn P w K mg base "is_letter" 4 1 g_is_letter) : FnX P w K mg base "read" 5 1 g_read := by
  have S : FnScope ["text", "rows", "letter"] ["text"] (defScope (top 21)) := ⟨rfl, rfl, rfl, by decide +kernel, rfl, by decide +kernel, by decide +kernel⟩
  refine def_okX (m := 2) (k := 4) (Fb := F_read) F S rfl (fun _ _ _ _ _ _ us hl => match us, hl with | [_], _ => rfl) hx fun cdv A outer s H E G₀ hr => ?_
  have hu := hr.units
  exact (pds_cons (q_ifS (q_tnot (q_tval (q_isi (isi_str _) T.b_isinstance T.b_str (by rfl) (pd_var 0)))) (pds_one (q_raise rfl T.x_NoLines (q_aC pd_str q_a0))) pds_nil)
      (pds_cons (q_setF 1 S.nd (q_split (pd_var 0) (q_aC pd_str q_a0)))
      (pds_cons (q_ifPopX 1 hu (pds_one (q_raise rfl T.x_NoLines (q_aC pd_str q_a0))))
      (pds_cons (q_share (q_compSetX 2 S.nd (sc := defScope (top 21)) (N := ["text", "rows", "letter"]) [] (by decide +kernel) rfl rfl rfl (q_it (pd_var 1)) fun C s₀ H₀ fp E B G₀ => (q_callX h_piece_of (hr.mono (by decide)) (q_aC (pd_var 0) q_a0))))
      (pds_cons (q_ifS (q_tnot (q_tval (q_call h_is_letter (hr.mono (by decide)) (q_aC (pd_var 2) q_a0)))) (pds_one (q_raise rfl T.x_NoLines (q_aC pd_str q_a0))) pds_nil)
      (pds_one (q_ret (pd_var 2))))))))

theorem ok__law_number {f : Addr} {fd : FuncData} (F : Fun K "_law_number" "_law_number" (top 35) f fd) (hx : mg "_law_number" = some (.ref f)) (T : Txt K mg) : Fn P w K mg base "_law_number" 1 1 g__law_number := by
  have S : FnScope ["_law_figures"] ["_law_figures"] (defScope (top 35)) := ⟨rfl, rfl, rfl, by decide +kernel, rfl, by decide +kernel, by decide +kernel⟩
  refine def_ok (m := 0) (k := 0) (Fb := F__law_number) F S rfl (fun _ _ _ _ _ _ us hl => match us, hl with | [_], _ => rfl) hx fun cdv A outer s H E G₀ hr => ?_
  have hu := hr.units
  exact (pds_cons (q_ifS (PW.pt (q_wor (q_tcmp (od_eq hu) (pd_var 0) pd_str) (q_w1o (q_tcmp (od_ne hu) (q_comp (sc := defScope (top 35)) (N := ["_law_figures"]) [] (by decide +kernel) rfl rfl rfl (q_it (pd_var 0)) (.one fun C s₀ H₀ fp B G₀ => (q_tcmp od_nin (pd_var 0) pd_str)) fun C s₀ H₀ fp B G₀ => (pd_var 0)) (q_lst q_a0))))) (pds_one (q_ret pd_non)) pds_nil)
      (pds_cons (q_ifS (PW.pt (q_wand (q_tcmp (od_eq hu) (q_ix (pd_var 0) pd_int) pd_str) (q_w1a (q_tcmp (od_ne hu) (pd_var 0) pd_str)))) (pds_one (q_ret pd_non)) pds_nil)
      (pds_one (q_ret (q_ty cd_intT T.b_int (by rfl) (q_aC (pd_var 0) q_a0))))))

theorem ok__law_piece {f : Addr} {fd : FuncData} (F : Fun K "_law_piece" "_law_piece" (top 36) f fd) (hx : mg "_law_piece" = some (.ref f)) (T : Txt K mg) (h__law_number : Fn P w K mg base "_law_number" 1 1 g__law_number) : Fn P w K mg base "_law_piece" 2 1 g__law_piece := by
  have S : FnScope ["_law_line", "_law_parts"] ["_law_line"] (defScope (top 36)) := ⟨rfl, rfl, rfl, by decide +kernel, rfl, by decide +kernel, by decide +kernel⟩
  refine def_ok (m := 1) (k := 1) (Fb := F__law_piece) F S rfl (fun _ _ _ _ _ _ us hl => match us, hl with | [_], _ => rfl) hx fun cdv A outer s H E G₀ hr => ?_
  have hu := hr.units
  exact (pds_cons (q_ifS (q_tcmp (od_eq hu) (q_slice (pd_var 0) q_noPart (q_part pd_int)) pd_str) (pds_one (q_ret (q_tup (q_aC pd_str (q_aC (q_slice (pd_var 0) (q_part pd_int) q_noPart) q_a0))))) pds_nil)
      (pds_cons (q_set 1 S.nd (q_asV (q_split (pd_var 0) (q_aC pd_str q_a0))))
      (pds_cons (q_ifS (PW.pt (q_wor (q_tcmp (od_ne hu) (q_blt cd_len T.b_len (by rfl) (q_aC (pd_var 1) q_a0)) pd_int) (q_w1o (q_tcmp (od_ne hu) (q_ix (pd_var 1) pd_int) pd_str)))) (pds_one (q_ret pd_non)) pds_nil)
      (pds_one (q_ret (q_tup (q_aC pd_str (q_aC (q_call h__law_number (hr.mono (by decide)) (q_aC (q_ix (pd_var 1) pd_int) q_a0)) (q_aC (q_call h__law_number (hr.mono (by decide)) (q_aC (q_ix (pd_var 1) pd_int) q_a0)) q_a0)))))))))

theorem ok__law_whole {f : Addr} {fd : FuncData} (F : Fun K "_law_whole" "_law_whole" (top 30) f fd) (hx : mg "_law_whole" = some (.ref f)) (T : Txt K mg) : Fn P w K mg base "_law_whole" 1 1 g__law_whole := by
  have S : FnScope ["_law_found"] ["_law_found"] (defScope (top 30)) := ⟨rfl, rfl, rfl, by decide +kernel, rfl, by decide +kernel, by decide +kernel⟩
  refine def_ok (m := 0) (k := 0) (Fb := F__law_whole) F S rfl (fun _ _ _ _ _ _ us hl => match us, hl with | [_], _ => rfl) hx fun cdv A outer s H E G₀ hr => ?_
  have hu := hr.units
  exact (pds_one (q_ret (q_and (q_isi (isi_int _) T.b_isinstance T.b_int (by rfl) (pd_var 0)) (pd_one (q_not (q_isi (isi_bool _) T.b_isinstance T.b_bool (by rfl) (pd_var 0)))))))

theorem ok__law_is_piece {f : Addr} {fd : FuncData} (F : Fun K "_law_is_piece" "_law_is_piece" (top 31) f fd) (hx : mg "_law_is_piece" = some (.ref f)) (T : Txt K mg) (h__law_whole : Fn P w K mg base "_law_whole" 1 1 g__law_whole) : Fn P w K mg base "_law_is_piece" 2 1 g__law_is_piece := by
  have S : FnScope ["_law_piece_here"] ["_law_piece_here"] (defScope (top 31)) := ⟨rfl, rfl, rfl, by decide +kernel, rfl, by decide +kernel, by decide +kernel⟩
  refine def_ok (m := 0) (k := 1) (Fb := F__law_is_piece) F S rfl (fun _ _ _ _ _ _ us hl => match us, hl with | [_], _ => rfl) hx fun cdv A outer s H E G₀ hr => ?_
  have hu := hr.units
  exact (pds_cons (q_ifS (PW.pt (q_wor (q_tnot (q_tval (q_isi (isi_tuple _) T.b_isinstance T.b_tuple (by rfl) (pd_var 0)))) (q_w1o (q_tcmp od_lt (q_blt cd_len T.b_len (by rfl) (q_aC (pd_var 0) q_a0)) pd_int)))) (pds_one (q_ret pd_bl)) pds_nil)
      (pds_cons (q_ifS (q_tcmp (od_eq hu) (q_ix (pd_var 0) pd_int) pd_str) (pds_one (q_ret (q_and (q_cmp (od_eq hu) (q_blt cd_len T.b_len (by rfl) (q_aC (pd_var 0) q_a0)) pd_int) (q_and (q_isi (isi_str _) T.b_isinstance T.b_str (by rfl) (q_ix (pd_var 0) pd_int)) (pd_one (q_cmp (od_ne hu) (q_ix (pd_var 0) pd_int) pd_str)))))) pds_nil)
      (pds_cons (q_ifS (PW.pt (q_wor (q_tcmp (od_ne hu) (q_ix (pd_var 0) pd_int) pd_str) (q_w1o (q_tcmp (od_ne hu) (q_blt cd_len T.b_len (by rfl) (q_aC (pd_var 0) q_a0)) pd_int)))) (pds_one (q_ret pd_bl)) pds_nil)
      (pds_one (q_ret (q_and (q_call h__law_whole (hr.mono (by decide)) (q_aC (q_ix (pd_var 0) pd_int) q_a0)) (q_and (q_cmp od_ge (q_ix (pd_var 0) pd_int) pd_int) (q_and (q_call h__law_whole (hr.mono (by decide)) (q_aC (q_ix (pd_var 0) pd_int) q_a0)) (pd_one (q_cmp od_gt (q_ix (pd_var 0) pd_int) pd_int))))))))))

theorem ok__law_is_letter {f : Addr} {fd : FuncData} (F : Fun K "_law_is_letter" "_law_is_letter" (top 32) f fd) (hx : mg "_law_is_letter" = some (.ref f)) (T : Txt K mg) (h__law_is_piece : Fn P w K mg base "_law_is_piece" 2 1 g__law_is_piece) : Fn P w K mg base "_law_is_letter" 3 1 g__law_is_letter := by
  have S : FnScope ["_law_thing"] ["_law_thing"] (defScope (top 32)) := ⟨rfl, rfl, rfl, by decide +kernel, rfl, by decide +kernel, by decide +kernel⟩
  refine def_ok (m := 0) (k := 2) (Fb := F__law_is_letter) F S rfl (fun _ _ _ _ _ _ us hl => match us, hl with | [_], _ => rfl) hx fun cdv A outer s H E G₀ hr => ?_
  have hu := hr.units
  exact (pds_one (q_ret (q_and (q_isi (isi_list _) T.b_isinstance T.b_list (by rfl) (pd_var 0)) (pd_one (q_cmp (od_eq hu) (q_comp (sc := defScope (top 32)) (N := ["_law_thing"]) [] (by decide +kernel) rfl rfl rfl (q_it (pd_var 0)) (.one fun C s₀ H₀ fp B G₀ => (q_tnot (q_tval (q_call h__law_is_piece (hr.mono (by decide)) (q_aC (pd_var 0) q_a0))))) fun C s₀ H₀ fp B G₀ => (pd_var 0)) (q_lst q_a0))))))

theorem ok__law_due {f : Addr} {fd : FuncData} (F : Fun K "_law_due" "_law_due" (top 37) f fd) (hx : mg "_law_due" = some (.ref f)) (T : Txt K mg) (h__law_piece : Fn P w K mg base "_law_piece" 2 1 g__law_piece) (h__law_is_letter : Fn P w K mg base "_law_is_letter" 3 1 g__law_is_letter) : Fn P w K mg base "_law_due" 4 1 g__law_due := by
  have S : FnScope ["_law_text_here", "_law_pieces"] ["_law_text_here"] (defScope (top 37)) := ⟨rfl, rfl, rfl, by decide +kernel, rfl, by decide +kernel, by decide +kernel⟩
  refine def_ok (m := 1) (k := 3) (Fb := F__law_due) F S rfl (fun _ _ _ _ _ _ us hl => match us, hl with | [_], _ => rfl) hx fun cdv A outer s H E G₀ hr => ?_
  have hu := hr.units
  exact (pds_cons (q_ifS (PW.pt (q_wor (q_tnot (q_tval (q_isi (isi_str _) T.b_isinstance T.b_str (by rfl) (pd_var 0)))) (q_w1o (PW.pt (q_wand (q_tcmp (od_ne hu) (pd_var 0) pd_str) (q_w1a (q_tcmp (od_ne hu) (q_ix (pd_var 0) (q_neg pd_int)) pd_str))))))) (pds_one (q_ret pd_non)) pds_nil)
      (pds_cons (q_compSet 1 S.nd (sc := defScope (top 37)) (N := ["_law_text_here", "_law_pieces"]) [] (by decide +kernel) rfl rfl rfl (q_it (q_slice (q_asV (q_split (pd_var 0) (q_aC pd_str q_a0))) q_noPart (q_part (q_neg pd_int)))) .nil fun C s₀ H₀ fp B G₀ => (q_call h__law_piece (hr.mono (by decide)) (q_aC (pd_var 0) q_a0)))
      (pds_cons (q_ifS (q_tnot (q_tval (q_call h__law_is_letter (hr.mono (by decide)) (q_aC (pd_var 1) q_a0)))) (pds_one (q_ret pd_non)) pds_nil)
      (pds_one (q_ret (pd_var 1))))))

theorem ok__law_text {f : Addr} {fd : FuncData} (F : Fun K "_law_text" "_law_text" (top 28) f fd) (hx : mg "_law_text" = some (.ref f)) (T : Txt K mg) (h__law_mixed : Fn P w K mg base "_law_mixed" 2 3 g__law_mixed) : Fn P w K mg base "_law_text" 3 3 g__law_text := by
  have S : FnScope ["_law_script", "_law_at", "_law_most", "_law_signs", "_law_seed", "_law_made", "_law_k", "_law_drawn"] ["_law_script", "_law_at", "_law_most"] (defScope (top 28)) := ⟨rfl, rfl, rfl, by decide +kernel, rfl, by decide +kernel, by decide +kernel⟩
  refine def_ok (m := 5) (k := 2) (Fb := F__law_text) F S rfl (fun _ _ _ _ _ _ us hl => match us, hl with | [_, _, _], _ => rfl) hx fun cdv A outer s H E G₀ hr => ?_
  have hu := hr.units
  exact (pds_cons (q_set 3 S.nd (q_ix (q_lst (q_aC pd_str (q_aC pd_str (q_aC pd_str (q_aC pd_str (q_aC pd_str q_a0)))))) (q_call h__law_mixed (hr.mono (by decide)) (q_aC (pd_var 0) (q_aC (pd_var 1) (q_aC pd_int q_a0))))))
      (pds_cons (q_set 4 S.nd (q_call h__law_mixed (hr.mono (by decide)) (q_aC (pd_var 0) (q_aC (q_bin od_add (pd_var 1) pd_int) (q_aC (q_bin od_pow pd_int pd_int) q_a0)))))
      (pds_cons (q_set 5 S.nd pd_str)
      (pds_cons (q_for (F := L__law_text_1) PassesOwn.never rfl (q_rng1 T.b_range (q_aC (q_call h__law_mixed (hr.mono (by decide)) (q_aC (pd_var 0) (q_aC (q_bin od_add (pd_var 1) pd_int) (q_aC (q_bin od_add (pd_var 2) pd_int) q_a0)))) q_a0)) (pg_name (i := 6) S.nd rfl (by first | exact Or.inl rfl | exact Or.inr rfl)) (q_tgN 6) fun G₀ => (pds_cons (q_set 7 S.nd (q_bin od_mod (q_bin od_mul (q_bin od_add (q_bin od_add (pd_var 4) (q_bin od_mul (q_bin od_mul pd_int (pd_var 6)) (pd_var 6))) (q_bin od_mul pd_int (pd_var 6))) pd_int) pd_int))
      (pds_one (q_set 5 S.nd (q_bin od_add (pd_var 5) (q_ix (pd_var 3) (q_bin od_mod (q_bin od_fdiv (q_bin od_mod (q_bin od_mul (pd_var 7) (q_bin od_add (pd_var 7) pd_int)) pd_int) pd_int) (q_blt cd_len T.b_len (by rfl) (q_aC (pd_var 3) q_a0)))))))))
      (pds_one (q_ret (pd_var 5)))))))

theorem ok__law_letter {f : Addr} {fd : FuncData} (F : Fun K "_law_letter" "_law_letter" (top 29) f fd) (hx : mg "_law_letter" = some (.ref f)) (T : Txt K mg) (h__law_mixed : Fn P w K mg base "_law_mixed" 2 3 g__law_mixed) (h__law_text : Fn P w K mg base "_law_text" 3 3 g__law_text) : Fn P w K mg base "_law_letter" 4 4 g__law_letter := by
  have S : FnScope ["_law_script", "_law_at", "_law_size", "_law_most", "_law_made", "_law_k", "_law_place", "_law_text_here", "_law_first"] ["_law_script", "_law_at", "_law_size", "_law_most"] (defScope (top 29)) := ⟨rfl, rfl, rfl, by decide +kernel, rfl, by decide +kernel, by decide +kernel⟩
  refine def_ok (m := 5) (k := 3) (Fb := F__law_letter) F S rfl (fun _ _ _ _ _ _ us hl => match us, hl with | [_, _, _, _], _ => rfl) hx fun cdv A outer s H E G₀ hr => ?_
  have hu := hr.units
  exact (pds_cons (q_own 4 S.nd q_a0)
      (pds_cons (q_for (F := L__law_letter_1) PassesOwn.never rfl (q_rng1 T.b_range (q_aC (q_call h__law_mixed (hr.mono (by decide)) (q_aC (pd_var 0) (q_aC (pd_var 1) (q_aC (q_bin od_add (pd_var 3) pd_int) q_a0)))) q_a0)) (pg_name (i := 5) S.nd rfl (by first | exact Or.inl rfl | exact Or.inr rfl)) (q_tgN 5) fun G₀ => (pds_cons (q_set 6 S.nd (q_bin od_add (q_bin od_add (pd_var 1) pd_int) (q_bin od_mul pd_int (pd_var 5))))
      (pds_cons (q_set 7 S.nd (q_call h__law_text (hr.mono (by decide)) (q_aC (pd_var 0) (q_aC (pd_var 6) (q_aC pd_int q_a0)))))
      (pds_one (q_ifS (PW.pt (q_wor (q_tcmp (od_eq hu) (pd_var 2) pd_int) (q_w1o (q_tcmp (od_eq hu) (q_call h__law_mixed (hr.mono (by decide)) (q_aC (pd_var 0) (q_aC (q_bin od_add (pd_var 6) pd_int) (q_aC pd_int q_a0)))) pd_int)))) (pds_one (q_mut 4 app_ne PySem.F.slot_list_append PySem.F.type_list_append mt_append mut_append (q_aC (q_tup (q_aC pd_str (q_aC (q_bin od_add (pd_var 7) pd_str) q_a0))) q_a0))) (pds_cons (q_set 8 S.nd (q_call h__law_mixed (hr.mono (by decide)) (q_aC (pd_var 0) (q_aC (q_bin od_add (pd_var 6) pd_int) (q_aC (pd_var 2) q_a0)))))
      (pds_cons (q_ifS (PW.pt (q_wand (q_lentT (q_tcmp (od_ne hu) (pd_var 4) (q_lst q_a0))) (q_wand (q_tcmp (od_eq hu) (q_ix (q_ixO 4 (q_neg pd_int)) pd_int) pd_str) (q_w1a (q_tcmp od_lt (q_bin od_add (q_ix (q_ixO 4 (q_neg pd_int)) pd_int) (q_ix (q_ixO 4 (q_neg pd_int)) pd_int)) (pd_var 2)))))) (pds_one (q_set 8 S.nd (q_ix (q_lst (q_aC (pd_var 8) (q_aC (q_bin od_add (q_ix (q_ixO 4 (q_neg pd_int)) pd_int) (q_ix (q_ixO 4 (q_neg pd_int)) pd_int)) q_a0))) (q_call h__law_mixed (hr.mono (by decide)) (q_aC (pd_var 0) (q_aC (pd_var 6) (q_aC pd_int q_a0))))))) pds_nil)
      (pds_one (q_mut 4 app_ne PySem.F.slot_list_append PySem.F.type_list_append mt_append mut_append (q_aC (q_tup (q_aC pd_str (q_aC (pd_var 8) (q_aC (q_bin od_add pd_int (q_call h__law_mixed (hr.mono (by decide)) (q_aC (pd_var 0) (q_aC (q_bin od_add (pd_var 6) pd_int) (q_aC (q_bin od_sub (pd_var 2) (pd_var 8)) q_a0))))) q_a0)))) q_a0))))))))))
      (pds_one (q_share (q_ret (pd_var 4))))))

theorem ok_law {f : Addr} {fd : FuncData} (F : Fun K "law" "law" (top 38) f fd) (T : Txt K mg) (h__law_spoilt : Fn P w K mg base "_law_spoilt" 1 2 g__law_spoilt) (h__law_lines : Fn P w K mg base "_law_lines" 1 1 g__law_lines) (h__law_mixed : Fn P w K mg base "_law_mixed" 2 3 g__law_mixed) (h_read : FnX P w K mg base "read" 5 1 g_read) (h__law_due : Fn P w K mg base "_law_due" 4 1 g__law_due) (h__law_letter : Fn P w K mg base "_law_letter" 4 4 g__law_letter) : FnOk P w K mg base CX0 6 f fd ["_law_script"] (spD K g_law 1) := by
  have S : FnScope ["_law_script", "_law_text_here", "_law_answer", "e"] ["_law_script"] (defScope (top 38)) := ⟨rfl, rfl, rfl, by decide +kernel, rfl, by decide +kernel, by decide +kernel⟩
  refine def_fn (m := 3) (k := 5) (Fb := F_law) F S rfl fun cdv A outer s H E G₀ hr => ?_
  have hu := hr.units
  exact (pds_cons (q_set 1 S.nd (q_call h__law_spoilt (hr.mono (by decide)) (q_aC (q_call h__law_lines (hr.mono (by decide)) (q_aC (q_call h__law_letter (hr.mono (by decide)) (q_aC (pd_var 0) (q_aC pd_int (q_aC pd_int (q_aC pd_int q_a0))))) q_a0)) (q_aC (q_call h__law_mixed (hr.mono (by decide)) (q_aC (pd_var 0) (q_aC pd_int (q_aC (q_bin od_pow pd_int pd_int) q_a0)))) q_a0))))
      (pds_cons (q_set 2 S.nd pd_non)
      (pds_cons (q_try2 (cs := ["NoLines"]) 3 S.nd T.m_NoLines_NoLines (fun pn E => (pds_one (q_set 2 S.nd (q_callX h_read (hr.mono (by decide)) (q_aC (pd_var 1) q_a0))))) (fun e => (pds_one (q_ifS (PW.pt (q_wor (q_tnot (q_tval (q_isx (cs := ["NoLines"]) T.i_NoLines_MendError T.b_isinstance (pd_var 3)))) (q_wor (q_tnot (q_tval (q_isxT (cs := ["NoLines"]) T.i_NoLines_ValueError T.b_isinstance T.b_ValueError (by rfl) (pd_var 3)))) (q_w1o (q_tval (q_isy (cs := ["NoLines"]) (b := false) T.n_NoLines_NoLetter T.b_isinstance (pd_var 3))))))) (pds_one (q_ret pd_bl)) pds_nil))))
      (pds_one (q_ret (q_cmp (od_eq hu) (pd_var 2) (q_call h__law_due (hr.mono (by decide)) (q_aC (pd_var 1) q_a0))))))))

end
end A

set_option Elab.async false
namespace A
open PySem PySem.Spec PyProof.Rows L2 M
theorem all_mk {l : PySem.W.OpenLaw} {w : World} {K : PySem.W.Frag} {h : Heap} {mg : Str → Option Value} {fa f1 f2 f3 f4 f5 f6 f7 f8 f9 f10 f11 f12 f13 f14 f15 f16 f17 f18 f19 f20 f21 f22 f23 f24 C_NoLines C_MendError C_NoLetter : Addr} (X : K.In h) (G : h.Ns mainGlobals mg) (hfa : mg "law" = some (.ref fa))
    {od1 an1 od2 an2 od3 an3 od4 an4 od5 an5 od6 an6 od7 an7 od8 an8 od9 an9 od10 an10 od11 an11 od12 an12 od13 an13 od14 an14 od15 an15 od16 an16 od17 an17 od18 an18 od19 an19 od20 an20 od21 an21 od22 an22 od23 an23 od24 an24 : Option Addr} {sl1 sl2 sl3 sl4 sl5 sl6 sl7 sl8 sl9 sl10 sl11 sl12 sl13 sl14 sl15 sl16 sl17 sl18 sl19 sl20 sl21 sl22 sl23 sl24 : Array (Option Value)} {oc1 kV1 dc1 pm1 cd1 ct1 oc2 kV2 dc2 pm2 cd2 ct2 oc3 kV3 dc3 pm3 cd3 ct3 oc4 kV4 dc4 pm4 cd4 ct4 oc5 kV5 dc5 pm5 cd5 ct5 oc6 kV6 dc6 pm6 cd6 ct6 oc7 kV7 dc7 pm7 cd7 ct7 oc8 kV8 dc8 pm8 cd8 ct8 oc9 kV9 dc9 pm9 cd9 ct9 oc10 kV10 dc10 pm10 cd10 ct10 oc11 kV11 dc11 pm11 cd11 ct11 oc12 kV12 dc12 pm12 cd12 ct12 oc13 kV13 dc13 pm13 cd13 ct13 oc14 kV14 dc14 pm14 cd14 ct14 oc15 kV15 dc15 pm15 cd15 ct15 oc16 kV16 dc16 pm16 cd16 ct16 oc17 kV17 dc17 pm17 cd17 ct17 oc18 kV18 dc18 pm18 cd18 ct18 oc19 kV19 dc19 pm19 cd19 ct19 oc20 kV20 dc20 pm20 cd20 ct20 oc21 kV21 dc21 pm21 cd21 ct21 oc22 kV22 dc22 pm22 cd22 ct22 oc23 kV23 dc23 pm23 cd23 ct23 oc24 kV24 dc24 pm24 cd24 ct24 : Value} {tc0 : Tok} {tc1 : Tok} {tc2 : Tok} {tc3 : Tok} {tc4 : Tok} {tc5 : Tok} {tc6 : Tok}
    (a1 : PySem.W.nsIn K mainGlobals "_law_spoilt" = some (some (.ref f1))) (l1 : K.lookup f1 = some ⟨oc1, od1, .func (PySem.W.fnOf "_law_spoilt" "_law_spoilt" (defArgs (top 34)) (defBody (top 34)) (defScope (top 34)) .none kV1 dc1 pm1 an1 cd1 ct1), sl1⟩) (c1 : PySem.W.codeIn K cd1 "_law_spoilt" = true) (k1 : PySem.W.keepIn K (.ref f1) = true)
    (a2 : PySem.W.nsIn K mainGlobals "_law_lines" = some (some (.ref f2))) (l2 : K.lookup f2 = some ⟨oc2, od2, .func (PySem.W.fnOf "_law_lines" "_law_lines" (defArgs (top 33)) (defBody (top 33)) (defScope (top 33)) .none kV2 dc2 pm2 an2 cd2 ct2), sl2⟩) (c2 : PySem.W.codeIn K cd2 "_law_lines" = true) (k2 : PySem.W.keepIn K (.ref f2) = true)
    (a3 : PySem.W.nsIn K mainGlobals "_law_cell_at" = some (some (.ref f3))) (l3 : K.lookup f3 = some ⟨oc3, od3, .func (PySem.W.fnOf "_law_cell_at" "_law_cell_at" (defArgs (top 26)) (defBody (top 26)) (defScope (top 26)) .none kV3 dc3 pm3 an3 cd3 ct3), sl3⟩) (c3 : PySem.W.codeIn K cd3 "_law_cell_at" = true) (k3 : PySem.W.keepIn K (.ref f3) = true)
    (a4 : PySem.W.nsIn K mainGlobals "_law_mixed" = some (some (.ref f4))) (l4 : K.lookup f4 = some ⟨oc4, od4, .func (PySem.W.fnOf "_law_mixed" "_law_mixed" (defArgs (top 27)) (defBody (top 27)) (defScope (top 27)) .none kV4 dc4 pm4 an4 cd4 ct4), sl4⟩) (c4 : PySem.W.codeIn K cd4 "_law_mixed" = true) (k4 : PySem.W.keepIn K (.ref f4) = true)
    (a5 : PySem.W.nsIn K mainGlobals "is_number" = some (some (.ref f5))) (l5 : K.lookup f5 = some ⟨oc5, od5, .func (PySem.W.fnOf "is_number" "is_number" (defArgs (top 24)) (defBody (top 24)) (defScope (top 24)) .none kV5 dc5 pm5 an5 cd5 ct5), sl5⟩) (c5 : PySem.W.codeIn K cd5 "is_number" = true) (k5 : PySem.W.keepIn K (.ref f5) = true)
    (a6 : PySem.W.nsIn K mainGlobals "number_of" = some (some (.ref f6))) (l6 : K.lookup f6 = some ⟨oc6, od6, .func (PySem.W.fnOf "number_of" "number_of" (defArgs (top 23)) (defBody (top 23)) (defScope (top 23)) .none kV6 dc6 pm6 an6 cd6 ct6), sl6⟩) (c6 : PySem.W.codeIn K cd6 "number_of" = true) (k6 : PySem.W.keepIn K (.ref f6) = true)
    (a7 : PySem.W.nsIn K mainGlobals "piece_of" = some (some (.ref f7))) (l7 : K.lookup f7 = some ⟨oc7, od7, .func (PySem.W.fnOf "piece_of" "piece_of" (defArgs (top 22)) (defBody (top 22)) (defScope (top 22)) .none kV7 dc7 pm7 an7 cd7 ct7), sl7⟩) (c7 : PySem.W.codeIn K cd7 "piece_of" = true) (k7 : PySem.W.keepIn K (.ref f7) = true)
    (a8 : PySem.W.nsIn K mainGlobals "is_copy" = some (some (.ref f8))) (l8 : K.lookup f8 = some ⟨oc8, od8, .func (PySem.W.fnOf "is_copy" "is_copy" (defArgs (top 17)) (defBody (top 17)) (defScope (top 17)) .none kV8 dc8 pm8 an8 cd8 ct8), sl8⟩) (c8 : PySem.W.codeIn K cd8 "is_copy" = true) (k8 : PySem.W.keepIn K (.ref f8) = true)
    (a9 : PySem.W.nsIn K mainGlobals "is_sign" = some (some (.ref f9))) (l9 : K.lookup f9 = some ⟨oc9, od9, .func (PySem.W.fnOf "is_sign" "is_sign" (defArgs (top 11)) (defBody (top 11)) (defScope (top 11)) .none kV9 dc9 pm9 an9 cd9 ct9), sl9⟩) (c9 : PySem.W.codeIn K cd9 "is_sign" = true) (k9 : PySem.W.keepIn K (.ref f9) = true)
    (a10 : PySem.W.nsIn K mainGlobals "is_text" = some (some (.ref f10))) (l10 : K.lookup f10 = some ⟨oc10, od10, .func (PySem.W.fnOf "is_text" "is_text" (defArgs (top 12)) (defBody (top 12)) (defScope (top 12)) .none kV10 dc10 pm10 an10 cd10 ct10), sl10⟩) (c10 : PySem.W.codeIn K cd10 "is_text" = true) (k10 : PySem.W.keepIn K (.ref f10) = true)
    (a11 : PySem.W.nsIn K mainGlobals "is_whole" = some (some (.ref f11))) (l11 : K.lookup f11 = some ⟨oc11, od11, .func (PySem.W.fnOf "is_whole" "is_whole" (defArgs (top 9)) (defBody (top 9)) (defScope (top 9)) .none kV11 dc11 pm11 an11 cd11 ct11), sl11⟩) (c11 : PySem.W.codeIn K cd11 "is_whole" = true) (k11 : PySem.W.keepIn K (.ref f11) = true)
    (a12 : PySem.W.nsIn K mainGlobals "is_from" = some (some (.ref f12))) (l12 : K.lookup f12 = some ⟨oc12, od12, .func (PySem.W.fnOf "is_from" "is_from" (defArgs (top 10)) (defBody (top 10)) (defScope (top 10)) .none kV12 dc12 pm12 an12 cd12 ct12), sl12⟩) (c12 : PySem.W.codeIn K cd12 "is_from" = true) (k12 : PySem.W.keepIn K (.ref f12) = true)
    (a13 : PySem.W.nsIn K mainGlobals "is_piece" = some (some (.ref f13))) (l13 : K.lookup f13 = some ⟨oc13, od13, .func (PySem.W.fnOf "is_piece" "is_piece" (defArgs (top 16)) (defBody (top 16)) (defScope (top 16)) .none kV13 dc13 pm13 an13 cd13 ct13), sl13⟩) (c13 : PySem.W.codeIn K cd13 "is_piece" = true) (k13 : PySem.W.keepIn K (.ref f13) = true)
    (a14 : PySem.W.nsIn K mainGlobals "is_letter" = some (some (.ref f14))) (l14 : K.lookup f14 = some ⟨oc14, od14, .func (PySem.W.fnOf "is_letter" "is_letter" (defArgs (top 15)) (defBody (top 15)) (defScope (top 15)) .none kV14 dc14 pm14 an14 cd14 ct14), sl14⟩) (c14 : PySem.W.codeIn K cd14 "is_letter" = true) (k14 : PySem.W.keepIn K (.ref f14) = true)
    (a15 : PySem.W.nsIn K mainGlobals "read" = some (some (.ref f15))) (l15 : K.lookup f15 = some ⟨oc15, od15, .func (PySem.W.fnOf "read" "read" (defArgs (top 21)) (defBody (top 21)) (defScope (top 21)) .none kV15 dc15 pm15 an15 cd15 ct15), sl15⟩) (c15 : PySem.W.codeIn K cd15 "read" = true) (k15 : PySem.W.keepIn K (.ref f15) = true)
    (a16 : PySem.W.nsIn K mainGlobals "_law_number" = some (some (.ref f16))) (l16 : K.lookup f16 = some ⟨oc16, od16, .func (PySem.W.fnOf "_law_number" "_law_number" (defArgs (top 35)) (defBody (top 35)) (defScope (top 35)) .none kV16 dc16 pm16 an16 cd16 ct16), sl16⟩) (c16 : PySem.W.codeIn K cd16 "_law_number" = true) (k16 : PySem.W.keepIn K (.ref f16) = true)
    (a17 : PySem.W.nsIn K mainGlobals "_law_piece" = some (some (.ref f17))) (l17 : K.lookup f17 = some ⟨oc17, od17, .func (PySem.W.fnOf "_law_piece" "_law_piece" (defArgs (top 36)) (defBody (top 36)) (defScope (top 36)) .none kV17 dc17 pm17 an17 cd17 ct17), sl17⟩) (c17 : PySem.W.codeIn K cd17 "_law_piece" = true) (k17 : PySem.W.keepIn K (.ref f17) = true)
    (a18 : PySem.W.nsIn K mainGlobals "_law_whole" = some (some (.ref f18))) (l18 : K.lookup f18 = some ⟨oc18, od18, .func (PySem.W.fnOf "_law_whole" "_law_whole" (defArgs (top 30)) (defBody (top 30)) (defScope (top 30)) .none kV18 dc18 pm18 an18 cd18 ct18), sl18⟩) (c18 : PySem.W.codeIn K cd18 "_law_whole" = true) (k18 : PySem.W.keepIn K (.ref f18) = true)
    (a19 : PySem.W.nsIn K mainGlobals "_law_is_piece" = some (some (.ref f19))) (l19 : K.lookup f19 = some ⟨oc19, od19, .func (PySem.W.fnOf "_law_is_piece" "_law_is_piece" (defArgs (top 31)) (defBody (top 31)) (defScope (top 31)) .none kV19 dc19 pm19 an19 cd19 ct19), sl19⟩) (c19 : PySem.W.codeIn K cd19 "_law_is_piece" = true) (k19 : PySem.W.keepIn K (.ref f19) = true)
    (a20 : PySem.W.nsIn K mainGlobals "_law_is_letter" = some (some (.ref f20))) (l20 : K.lookup f20 = some ⟨oc20, od20, .func (PySem.W.fnOf "_law_is_letter" "_law_is_letter" (defArgs (top 32)) (defBody (top 32)) (defScope (top 32)) .none kV20 dc20 pm20 an20 cd20 ct20), sl20⟩) (c20 : PySem.W.codeIn K cd20 "_law_is_letter" = true) (k20 : PySem.W.keepIn K (.ref f20) = true)
    (a21 : PySem.W.nsIn K mainGlobals "_law_due" = some (some (.ref f21))) (l21 : K.lookup f21 = some ⟨oc21, od21, .func (PySem.W.fnOf "_law_due" "_law_due" (defArgs (top 37)) (defBody (top 37)) (defScope (top 37)) .none kV21 dc21 pm21 an21 cd21 ct21), sl21⟩) (c21 : PySem.W.codeIn K cd21 "_law_due" = true) (k21 : PySem.W.keepIn K (.ref f21) = true)
    (a22 : PySem.W.nsIn K mainGlobals "_law_text" = some (some (.ref f22))) (l22 : K.lookup f22 = some ⟨oc22, od22, .func (PySem.W.fnOf "_law_text" "_law_text" (defArgs (top 28)) (defBody (top 28)) (defScope (top 28)) .none kV22 dc22 pm22 an22 cd22 ct22), sl22⟩) (c22 : PySem.W.codeIn K cd22 "_law_text" = true) (k22 : PySem.W.keepIn K (.ref f22) = true)
    (a23 : PySem.W.nsIn K mainGlobals "_law_letter" = some (some (.ref f23))) (l23 : K.lookup f23 = some ⟨oc23, od23, .func (PySem.W.fnOf "_law_letter" "_law_letter" (defArgs (top 29)) (defBody (top 29)) (defScope (top 29)) .none kV23 dc23 pm23 an23 cd23 ct23), sl23⟩) (c23 : PySem.W.codeIn K cd23 "_law_letter" = true) (k23 : PySem.W.keepIn K (.ref f23) = true)
    (a24 : PySem.W.nsIn K mainGlobals "law" = some (some (.ref f24))) (l24 : K.lookup f24 = some ⟨oc24, od24, .func (PySem.W.fnOf "law" "law" (defArgs (top 38)) (defBody (top 38)) (defScope (top 38)) .none kV24 dc24 pm24 an24 cd24 ct24), sl24⟩) (c24 : PySem.W.codeIn K cd24 "law" = true) (k24 : PySem.W.keepIn K (.ref f24) = true)
    (zb0 : PySem.W.nsIn K mainGlobals "len" = some none)
    (zb1 : PySem.W.nsIn K mainGlobals "str" = some none)
    (zb2 : PySem.W.nsIn K mainGlobals "all" = some none)
    (zb3 : PySem.W.nsIn K mainGlobals "int" = some none)
    (zb4 : PySem.W.nsIn K mainGlobals "ord" = some none)
    (zb5 : PySem.W.nsIn K mainGlobals "isinstance" = some none)
    (zb6 : PySem.W.nsIn K mainGlobals "bool" = some none)
    (zb7 : PySem.W.nsIn K mainGlobals "tuple" = some none)
    (zb8 : PySem.W.nsIn K mainGlobals "list" = some none)
    (zb9 : PySem.W.nsIn K mainGlobals "range" = some none)
    (zb10 : PySem.W.nsIn K mainGlobals "ValueError" = some none)
    (zc0 : PySem.W.nsIn K mainGlobals "MOST_FIGURES" = some (some (.int 300 tc0)))
    (zc1 : PySem.W.nsIn K mainGlobals "FIGURES" = some (some (.str "0123456789" tc1)))
    (zc2 : PySem.W.nsIn K mainGlobals "BLANK" = some (some (.int 32 tc2)))
    (zc3 : PySem.W.nsIn K mainGlobals "TILDE" = some (some (.int 126 tc3)))
    (zc4 : PySem.W.nsIn K mainGlobals "PERCENT" = some (some (.int 37 tc4)))
    (zc5 : PySem.W.nsIn K mainGlobals "MOST_SIGNS" = some (some (.int 2000 tc5)))
    (zc6 : PySem.W.nsIn K mainGlobals "MOST_PIECES" = some (some (.int 2000 tc6)))
    (na_NoLines : PySem.W.nsIn K mainGlobals "NoLines" = some (some (.ref C_NoLines)))
    (na_MendError : PySem.W.nsIn K mainGlobals "MendError" = some (some (.ref C_MendError)))
    (na_NoLetter : PySem.W.nsIn K mainGlobals "NoLetter" = some (some (.ref C_NoLetter)))
    (xe_NoLines : PySem.W.excIn K C_NoLines VE "ValueError.__new__" = true)
    (xi_NoLines_MendError : PySem.W.kitOne K (.ref C_NoLines) (.ref C_MendError) = some true)
    (xi_NoLines_ValueError : PySem.W.kitOne K (.ref C_NoLines) (.type "ValueError") = some true)
    (xk_NoLines_0 : PySem.W.mroIn K C_NoLines (.type "object") = some true)
    (xk_NoLines_1 : PySem.W.mroIn K C_NoLines (.type "BaseException") = some true)
    (xk_NoLines_2 : PySem.W.findIn K (.ref C_NoLines) "__getattribute__" = some (some (.builtin "BaseException.__getattribute__")))
    (xk_NoLines_3 : PySem.W.findIn K (.ref C_NoLines) "__getattr__" = some none)
    (xk_NoLines_4 : PySem.W.findIn K (.ref C_NoLines) "__class__" = some (some (.builtin "object.__class__")))
    (xk_NoLines_5 : (PySem.W.clsIn K C_NoLines).isSome = true)
    (xn_NoLines_NoLetter : PySem.W.kitOne K (.ref C_NoLines) (.ref C_NoLetter) = some false)
    (xm_NoLines_NoLines : PySem.W.exmOne K (.ref C_NoLines) (.ref C_NoLines) = some true)
    (hg : ∀ ns : List Int, ns.length ≤ 63 → g_law [.lst (ns.map D.int)] = .ok (.bl true)) :
    ∃ fd : FuncData, (∀ (s : Shared) (v : Value), BindsTo s fd ⟨[v], []⟩ [("_law_script", v)]) ∧ ∀ base : Heap, K.In base → base.Ns mainGlobals mg → FnOk l.prog w K mg base CX0 6 fa fd ["_law_script"] (spLaw K) := by
  have e := hfa.symm.trans (PySem.W.mg_of X G a24)
  cases e
  have T : Txt K mg := ⟨PySem.W.mg_none_of X G zb0, PySem.W.mg_none_of X G zb1, PySem.W.mg_none_of X G zb2, PySem.W.mg_none_of X G zb3, PySem.W.mg_none_of X G zb4, PySem.W.mg_none_of X G zb5, PySem.W.mg_none_of X G zb6, PySem.W.mg_none_of X G zb7, PySem.W.mg_none_of X G zb8, PySem.W.mg_none_of X G zb9, PySem.W.mg_none_of X G zb10, ⟨_, PySem.W.mg_of X G zc0⟩, ⟨_, PySem.W.mg_of X G zc1⟩, ⟨_, PySem.W.mg_of X G zc2⟩, ⟨_, PySem.W.mg_of X G zc3⟩, ⟨_, PySem.W.mg_of X G zc4⟩, ⟨_, PySem.W.mg_of X G zc5⟩, ⟨_, PySem.W.mg_of X G zc6⟩, ⟨_, PySem.W.mg_of X G na_NoLines, xe_NoLines⟩, ⟨_, PySem.W.mg_of X G na_MendError, (List.forall_mem_cons.mpr ⟨⟨_, na_NoLines, xi_NoLines_MendError⟩, (fun _ z => by cases z)⟩)⟩, (List.forall_mem_cons.mpr ⟨⟨_, na_NoLines, xi_NoLines_ValueError⟩, (fun _ z => by cases z)⟩), ⟨_, PySem.W.mg_of X G na_NoLetter, (List.forall_mem_cons.mpr ⟨⟨_, na_NoLines, ⟨xk_NoLines_0, xk_NoLines_1, xk_NoLines_2, xk_NoLines_3, xk_NoLines_4, xk_NoLines_5⟩, xn_NoLines_NoLetter⟩, (fun _ z => by cases z)⟩)⟩, (List.forall_mem_cons.mpr ⟨⟨_, _, PySem.W.mg_of X G na_NoLines, na_NoLines, PySem.W.mg_of X G na_NoLines, xm_NoLines_NoLines⟩, (fun _ z => by cases z)⟩)⟩
  have F1 := fun_mk (st := top 34) l1 c1 k1
  have F2 := fun_mk (st := top 33) l2 c2 k2
  have F3 := fun_mk (st := top 26) l3 c3 k3
  have F4 := fun_mk (st := top 27) l4 c4 k4
  have F5 := fun_mk (st := top 24) l5 c5 k5
  have F6 := fun_mk (st := top 23) l6 c6 k6
  have F7 := fun_mk (st := top 22) l7 c7 k7
  have F8 := fun_mk (st := top 17) l8 c8 k8
  have F9 := fun_mk (st := top 11) l9 c9 k9
  have F10 := fun_mk (st := top 12) l10 c10 k10
  have F11 := fun_mk (st := top 9) l11 c11 k11
  have F12 := fun_mk (st := top 10) l12 c12 k12
  have F13 := fun_mk (st := top 16) l13 c13 k13
  have F14 := fun_mk (st := top 15) l14 c14 k14
  have F15 := fun_mk (st := top 21) l15 c15 k15
  have F16 := fun_mk (st := top 35) l16 c16 k16
  have F17 := fun_mk (st := top 36) l17 c17 k17
  have F18 := fun_mk (st := top 30) l18 c18 k18
  have F19 := fun_mk (st := top 31) l19 c19 k19
  have F20 := fun_mk (st := top 32) l20 c20 k20
  have F21 := fun_mk (st := top 37) l21 c21 k21
  have F22 := fun_mk (st := top 28) l22 c22 k22
  have F23 := fun_mk (st := top 29) l23 c23 k23
  have F24 := fun_mk (st := top 38) l24 c24 k24
  refine ⟨PySem.W.fnOf "law" "law" (defArgs (top 38)) (defBody (top 38)) (defScope (top 38)) .none kV24 dc24 pm24 an24 cd24 ct24, fun s v => .of_eq rfl, fun base _ _ => ?_⟩
  have h1 : Fn l.prog w K mg base "_law_spoilt" 1 2 g__law_spoilt := ok__law_spoilt F1 (PySem.W.mg_of X G a1) T 
  have h2 : Fn l.prog w K mg base "_law_lines" 1 1 g__law_lines := ok__law_lines F2 (PySem.W.mg_of X G a2) T 
  have h3 : Fn l.prog w K mg base "_law_cell_at" 1 2 g__law_cell_at := ok__law_cell_at F3 (PySem.W.mg_of X G a3) T 
  have h4 : Fn l.prog w K mg base "_law_mixed" 2 3 g__law_mixed := ok__law_mixed F4 (PySem.W.mg_of X G a4) T h3
  have h5 : Fn l.prog w K mg base "is_number" 1 1 g_is_number := ok_is_number F5 (PySem.W.mg_of X G a5) T 
  have h6 : FnX l.prog w K mg base "number_of" 2 1 g_number_of := ok_number_of F6 (PySem.W.mg_of X G a6) T h5
  have h7 : FnX l.prog w K mg base "piece_of" 3 1 g_piece_of := ok_piece_of F7 (PySem.W.mg_of X G a7) T h6
  have h8 : Fn l.prog w K mg base "is_copy" 1 1 g_is_copy := ok_is_copy F8 (PySem.W.mg_of X G a8) T 
  have h9 : Fn l.prog w K mg base "is_sign" 1 1 g_is_sign := ok_is_sign F9 (PySem.W.mg_of X G a9) T 
  have h10 : Fn l.prog w K mg base "is_text" 2 1 g_is_text := ok_is_text F10 (PySem.W.mg_of X G a10) T h9
  have h11 : Fn l.prog w K mg base "is_whole" 1 1 g_is_whole := ok_is_whole F11 (PySem.W.mg_of X G a11) T 
  have h12 : Fn l.prog w K mg base "is_from" 2 2 g_is_from := ok_is_from F12 (PySem.W.mg_of X G a12) T h11
  have h13 : Fn l.prog w K mg base "is_piece" 3 1 g_is_piece := ok_is_piece F13 (PySem.W.mg_of X G a13) T h8 h10 h12
  have h14 : Fn l.prog w K mg base "is_letter" 4 1 g_is_letter := ok_is_letter F14 (PySem.W.mg_of X G a14) T h13
  have h15 : FnX l.prog w K mg base "read" 5 1 g_read := ok_read F15 (PySem.W.mg_of X G a15) T h7 h14
  have h16 : Fn l.prog w K mg base "_law_number" 1 1 g__law_number := ok__law_number F16 (PySem.W.mg_of X G a16) T 
  have h17 : Fn l.prog w K mg base "_law_piece" 2 1 g__law_piece := ok__law_piece F17 (PySem.W.mg_of X G a17) T h16
  have h18 : Fn l.prog w K mg base "_law_whole" 1 1 g__law_whole := ok__law_whole F18 (PySem.W.mg_of X G a18) T 
  have h19 : Fn l.prog w K mg base "_law_is_piece" 2 1 g__law_is_piece := ok__law_is_piece F19 (PySem.W.mg_of X G a19) T h18
  have h20 : Fn l.prog w K mg base "_law_is_letter" 3 1 g__law_is_letter := ok__law_is_letter F20 (PySem.W.mg_of X G a20) T h19
  have h21 : Fn l.prog w K mg base "_law_due" 4 1 g__law_due := ok__law_due F21 (PySem.W.mg_of X G a21) T h17 h20
  have h22 : Fn l.prog w K mg base "_law_text" 3 3 g__law_text := ok__law_text F22 (PySem.W.mg_of X G a22) T h4
  have h23 : Fn l.prog w K mg base "_law_letter" 4 4 g__law_letter := ok__law_letter F23 (PySem.W.mg_of X G a23) T h4 h22
  exact law_fn (ok_law F24 T h1 h2 h4 h15 h21 h23) hg
end A
open PySem PySem.W PyProof.Rows
set_option maxRecDepth 100000 in
set_option maxHeartbeats 0 in
theorem PySem.Challenge.cw_rollmend_k17_lines_refused_holds : PySem.Challenge.rw_rollmend_k17_lines_refused.Holds := by
  w_on; o_law; k_head; (case hw => w_witness2)
  k_fill
  refine M.walk (l := PySem.Challenge.rw_rollmend_k17_lines_refused) (k := 6) (x := "_law_script") rfl ⟨rfl, by decide, by decide⟩ rfl (fun w h Y => PySem.W.kIn_of Y) ?F
  case F =>
    intro w mg fa h KX G hmg
    refine' A.all_mk KX G hmg ?a1 ?l1 ?c1 ?k1 ?a2 ?l2 ?c2 ?k2 ?a3 ?l3 ?c3 ?k3 ?a4 ?l4 ?c4 ?k4 ?a5 ?l5 ?c5 ?k5 ?a6 ?l6 ?c6 ?k6 ?a7 ?l7 ?c7 ?k7 ?a8 ?l8 ?c8 ?k8 ?a9 ?l9 ?c9 ?k9 ?a10 ?l10 ?c10 ?k10 ?a11 ?l11 ?c11 ?k11 ?a12 ?l12 ?c12 ?k12 ?a13 ?l13 ?c13 ?k13 ?a14 ?l14 ?c14 ?k14 ?a15 ?l15 ?c15 ?k15 ?a16 ?l16 ?c16 ?k16 ?a17 ?l17 ?c17 ?k17 ?a18 ?l18 ?c18 ?k18 ?a19 ?l19 ?c19 ?k19 ?a20 ?l20 ?c20 ?k20 ?a21 ?l21 ?c21 ?k21 ?a22 ?l22 ?c22 ?k22 ?a23 ?l23 ?c23 ?k23 ?a24 ?l24 ?c24 ?k24 ?zb0 ?zb1 ?zb2 ?zb3 ?zb4 ?zb5 ?zb6 ?zb7 ?zb8 ?zb9 ?zb10 ?zc0 ?zc1 ?zc2 ?zc3 ?zc4 ?zc5 ?zc6 ?na_NoLines ?na_MendError ?na_NoLetter ?xe_NoLines ?xi_NoLines_MendError ?xi_NoLines_ValueError ?xk_NoLines_0 ?xk_NoLines_1 ?xk_NoLines_2 ?xk_NoLines_3 ?xk_NoLines_4 ?xk_NoLines_5 ?xn_NoLines_NoLetter ?xm_NoLines_NoLines A.math
    (case a1 => k_is)
    (case l1 => k_is)
    (case c1 => k_is)
    (case k1 => k_is)
    (case a2 => k_is)
    (case l2 => k_is)
    (case c2 => k_is)
    (case k2 => k_is)
    (case a3 => k_is)
    (case l3 => k_is)
    (case c3 => k_is)
    (case k3 => k_is)
    (case a4 => k_is)
    (case l4 => k_is)
    (case c4 => k_is)
    (case k4 => k_is)
    (case a5 => k_is)
    (case l5 => k_is)
    (case c5 => k_is)
    (case k5 => k_is)
    (case a6 => k_is)
    (case l6 => k_is)
    (case c6 => k_is)
    (case k6 => k_is)
    (case a7 => k_is)
    (case l7 => k_is)
    (case c7 => k_is)
    (case k7 => k_is)
    (case a8 => k_is)
    (case l8 => k_is)
    (case c8 => k_is)
    (case k8 => k_is)
    (case a9 => k_is)
    (case l9 => k_is)
    (case c9 => k_is)
    (case k9 => k_is)
    (case a10 => k_is)
    (case l10 => k_is)
    (case c10 => k_is)
    (case k10 => k_is)
    (case a11 => k_is)
    (case l11 => k_is)
    (case c11 => k_is)
    (case k11 => k_is)
    (case a12 => k_is)
    (case l12 => k_is)
    (case c12 => k_is)
    (case k12 => k_is)
    (case a13 => k_is)
    (case l13 => k_is)
    (case c13 => k_is)
    (case k13 => k_is)
    (case a14 => k_is)
    (case l14 => k_is)
    (case c14 => k_is)
    (case k14 => k_is)
    (case a15 => k_is)
    (case l15 => k_is)
    (case c15 => k_is)
    (case k15 => k_is)
    (case a16 => k_is)
    (case l16 => k_is)
    (case c16 => k_is)
    (case k16 => k_is)
    (case a17 => k_is)
    (case l17 => k_is)
    (case c17 => k_is)
    (case k17 => k_is)
    (case a18 => k_is)
    (case l18 => k_is)
    (case c18 => k_is)
    (case k18 => k_is)
    (case a19 => k_is)
    (case l19 => k_is)
    (case c19 => k_is)
    (case k19 => k_is)
    (case a20 => k_is)
    (case l20 => k_is)
    (case c20 => k_is)
    (case k20 => k_is)
    (case a21 => k_is)
    (case l21 => k_is)
    (case c21 => k_is)
    (case k21 => k_is)
    (case a22 => k_is)
    (case l22 => k_is)
    (case c22 => k_is)
    (case k22 => k_is)
    (case a23 => k_is)
    (case l23 => k_is)
    (case c23 => k_is)
    (case k23 => k_is)
    (case a24 => k_is)
    (case l24 => k_is)
    (case c24 => k_is)
    (case k24 => k_is)
    (case zb0 => k_is)
    (case zb1 => k_is)
    (case zb2 => k_is)
    (case zb3 => k_is)
    (case zb4 => k_is)
    (case zb5 => k_is)
    (case zb6 => k_is)
    (case zb7 => k_is)
    (case zb8 => k_is)
    (case zb9 => k_is)
    (case zb10 => k_is)
    (case zc0 => k_is)
    (case zc1 => k_is)
    (case zc2 => k_is)
    (case zc3 => k_is)
    (case zc4 => k_is)
    (case zc5 => k_is)
    (case zc6 => k_is)
    (case na_NoLines => k_is)
    (case na_MendError => k_is)
    (case na_NoLetter => k_is)
    (case xe_NoLines => kernel_rfl)
    (case xi_NoLines_MendError => kernel_rfl)
    (case xi_NoLines_ValueError => kernel_rfl)
    (case xk_NoLines_0 => kernel_rfl)
    (case xk_NoLines_1 => kernel_rfl)
    (case xk_NoLines_2 => kernel_rfl)
    (case xk_NoLines_3 => kernel_rfl)
    (case xk_NoLines_4 => kernel_rfl)
    (case xk_NoLines_5 => kernel_rfl)
    (case xn_NoLines_NoLetter => kernel_rfl)
    (case xm_NoLines_NoLines => kernel_rfl)

